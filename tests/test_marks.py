import random
import unittest

from lotjoin.errors import NoJoin, NoWay
from lotjoin.forest import forest_of
from lotjoin.marks import marks_of
from reckon import lots_by_walks, marks_by_lots
from refusals import RefusesWays
from samples import FULL, MOST, TOWN, WEBS, small_webs, some_ways, some_webs

# Each pair of the houses 0 to 5 has its way, with these numbers.
ENDS = tuple((one, other) for one in range(6) for other in range(one + 1, 6))
SIX = (6, tuple((one, other, 1) for one, other in ENDS))


def over(*pairs):
    return [ENDS.index(pair) for pair in pairs]


def shuffled_forests(count):
    chance = random.Random(13)
    rows = []
    for web in list(WEBS) + small_webs(30) + some_webs(count):
        for _ in range(6):
            ways = forest_of(web)
            chance.shuffle(ways)
            rows.append((web, ways[: chance.randint(0, len(ways))]))
            rows.append((web, ways))
    return rows


class MarksOf(RefusesWays, unittest.TestCase):
    asks = (marks_of,)

    def place_refused(self, error, web, ways):
        with self.assertRaises(error) as caught:
            marks_of(web, ways)
        self.assertIs(type(caught.exception.place), int)
        return caught.exception.place

    def test_no_ways(self):
        for many in range(1, 13):
            self.assertEqual(marks_of((many, ()), []), (list(range(many)), [0] * many))
        self.assertEqual(marks_of(SIX, []), ([0, 1, 2, 3, 4, 5], [0] * 6))

    def test_two_houses(self):
        for number, (one, other) in enumerate(ENDS):
            marks, taken = list(range(6)), [0] * 6
            marks[other], taken[other] = one, 1
            self.assertEqual(marks_of(SIX, [number]), (marks, taken))

    def test_fewer_houses_take_the_others_mark(self):
        self.assertEqual(marks_of(SIX, over((3, 5), (0, 3))), ([3, 1, 2, 3, 4, 3], [1, 0, 0, 0, 0, 1]))
        self.assertEqual(marks_of(SIX, over((3, 5), (0, 5))), ([3, 1, 2, 3, 4, 3], [1, 0, 0, 0, 0, 1]))
        self.assertEqual(marks_of(SIX, over((0, 1), (1, 5))), ([0, 0, 2, 3, 4, 0], [0, 1, 0, 0, 0, 1]))

    def test_as_many_houses_the_lesser_mark_stays(self):
        self.assertEqual(marks_of(SIX, over((2, 3), (0, 1), (1, 2))), ([0, 0, 0, 0, 4, 5], [0, 1, 1, 2, 0, 0]))
        self.assertEqual(marks_of(SIX, over((1, 5), (2, 3), (3, 5))), ([0, 1, 1, 1, 4, 1], [0, 0, 1, 2, 0, 1]))

    def test_the_mark_counts_and_not_the_first_house(self):
        # The lot 0 3 5 bears 3, the lot 1 2 4 bears 1 or 2.
        lesser = over((3, 5), (0, 3), (1, 2), (2, 4), (0, 4))
        self.assertEqual(marks_of(SIX, lesser), ([1] * 6, [2, 0, 1, 1, 1, 2]))
        other = over((3, 5), (0, 3), (2, 4), (1, 2), (0, 1))
        self.assertEqual(marks_of(SIX, other), ([2] * 6, [2, 1, 0, 1, 1, 2]))

    def test_three_take_the_mark_of_three(self):
        ways = over((4, 5), (0, 4), (2, 3), (1, 3), (0, 1))
        self.assertEqual(marks_of(SIX, ways), ([2] * 6, [2, 1, 0, 1, 1, 2]))

    def test_a_house_takes_three_marks(self):
        web = (8, ((6, 7, 1), (4, 5, 1), (4, 6, 1), (2, 3, 1), (0, 1, 1), (0, 2, 1), (3, 7, 1)))
        told = marks_of(web, [0, 1, 2, 3, 4, 5, 6])
        self.assertEqual(told, ([0] * 8, [0, 1, 1, 2, 1, 2, 2, 3]))

    def test_the_order_matters(self):
        web = (4, ((0, 1, 1), (1, 2, 1), (2, 3, 1)))
        self.assertEqual(marks_of(web, [0, 1, 2]), ([0, 0, 0, 0], [0, 1, 1, 1]))
        self.assertEqual(marks_of(web, [2, 1, 0]), ([2, 2, 2, 2], [1, 1, 0, 1]))
        self.assertEqual(marks_of(web, [1, 0, 2]), ([1, 1, 1, 1], [1, 0, 1, 1]))
        self.assertEqual(marks_of(web, [2, 0, 1]), ([0, 0, 0, 0], [0, 1, 1, 2]))

    def test_prices_do_not_matter(self):
        dear = (6, tuple((one, other, MOST - one * other) for one, other in ENDS))
        for ways in (over((3, 5), (0, 3), (1, 4)), over((0, 5), (1, 5), (4, 5), (3, 4))):
            self.assertEqual(marks_of(dear, ways), marks_of(SIX, ways))

    def test_by_whole_lots(self):
        for web, ways in shuffled_forests(150):
            with self.subTest(web=web, ways=ways):
                self.assertEqual(marks_of(web, ways), marks_by_lots(web, ways))

    def test_one_mark_a_lot(self):
        for web, ways in shuffled_forests(60):
            marks, _ = marks_of(web, ways)
            for lot in lots_by_walks(web, ways):
                self.assertEqual([house for house in range(web[0]) if marks[house] == marks[lot[0]]], lot)
                self.assertIn(marks[lot[0]], lot)

    def test_two_to_the_power_of_how_often(self):
        for web, ways in shuffled_forests(60):
            marks, taken = marks_of(web, ways)
            for house in range(web[0]):
                self.assertLessEqual(2 ** taken[house], marks.count(marks[house]))

    def test_no_join_with_its_place(self):
        self.assertEqual(self.place_refused(NoJoin, TOWN, [0, 1, 2]), 2)
        self.assertEqual(self.place_refused(NoJoin, TOWN, [4, 3, 5, 2]), 3)
        self.assertEqual(self.place_refused(NoJoin, TOWN, [2, 3, 1, 0, 5]), 3)
        self.assertEqual(self.place_refused(NoJoin, TOWN, [0, 1, 2, 5, 4]), 2)
        self.assertEqual(self.place_refused(NoJoin, SIX, over((4, 5), (3, 4), (2, 3), (2, 5), (2, 4))), 3)

    def test_no_join_of_any_ways(self):
        for web in list(WEBS) + some_webs(100):
            for ways in some_ways(web, 6):
                right = marks_by_lots(web, ways)
                with self.subTest(web=web, ways=ways):
                    if isinstance(right, int):
                        self.assertEqual(self.place_refused(NoJoin, web, ways), right)
                    else:
                        self.assertEqual(marks_of(web, ways), right)

    def test_no_way_goes_ahead_of_no_join(self):
        self.assertEqual(self.place_refused(NoWay, TOWN, [0, 1, 2, 6]), 3)
        self.assertEqual(self.place_refused(NoWay, TOWN, [0, 1, 2, 0]), 3)
        self.assertEqual(self.place_refused(NoWay, TOWN, [0, 1, 2, 5, 4, True]), 5)
        self.assertEqual(self.place_refused(NoWay, TOWN, [0, 0]), 1)

    def test_the_list_stays_as_it_was(self):
        for web, ways in shuffled_forests(20):
            kept = list(ways)
            marks_of(web, ways)
            self.assertEqual(ways, kept)
        ways = [0, 1, 2, 5]
        self.place_refused(NoJoin, TOWN, ways)
        self.assertEqual(ways, [0, 1, 2, 5])

    def test_kinds(self):
        for ways in ([], [0], forest_of(FULL)):
            told = marks_of(FULL, ways)
            self.assertIs(type(told), tuple)
            self.assertEqual([type(one) for one in told], [list, list])
            self.assertEqual({type(number) for one in told for number in one}, {int})

    def test_the_told_lists_are_the_askers_own(self):
        for ways in ([], [5, 0, 3]):
            told = marks_of(TOWN, ways)
            kept = (list(told[0]), list(told[1]))
            told[0].append(99)
            told[0][0] = 98
            told[1].clear()
            self.assertEqual(marks_of(TOWN, ways), kept)

    def test_a_refused_join_changes_nothing(self):
        right = marks_of(TOWN, [0, 1])
        self.place_refused(NoJoin, TOWN, [0, 1, 2])
        self.assertEqual(marks_of(TOWN, [0, 1]), right)


if __name__ == "__main__":
    unittest.main()
