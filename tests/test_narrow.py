import itertools
import random
import unittest

from lotjoin.errors import NoHouse
from lotjoin.narrow import is_narrow, narrow_of, next_best
from reckon import forests, greedy, lists_of, lots_by_walks, outs, rank, rises, weight
from refusals import RefusesNoWeb
from samples import FULL, ODD_THINGS, TOWN, WEBS, small_webs, some_webs

SMALL = small_webs(80)
WEBS_HERE = list(WEBS) + SMALL + some_webs(40)
HOUSES_OUT = ODD_THINGS + (-1, 7, 12, 10 ** 30, -(10 ** 30), [], [0], [[0]])
TRIO = (3, ((0, 1, 1), (1, 2, 2), (0, 2, 3)))


def roads_between(web, one, other):
    """All roads that come to no house twice, each a list of ways."""
    roads, ahead = [], [([], [one])]
    while ahead:
        ways, houses = ahead.pop()
        if houses[-1] == other:
            roads.append(ways)
            continue
        for number, way in enumerate(web[1]):
            if houses[-1] in way[:2]:
                near = sum(way[:2]) - houses[-1]
                if near not in houses:
                    ahead.append((ways + [number], houses + [near]))
    return roads


def road_in_forest(web, one, other):
    forest = greedy(web)
    lines = (web[0], tuple(web[1][number] for number in forest))
    roads = [[forest[place] for place in road] for road in roads_between(lines, one, other)]
    return roads[0] if roads else None


def greatest(web, ways):
    return max(ways, key=lambda number: rank(web, number))


def is_narrow_by_words(web, one, other, number, houses):
    road = road_in_forest(web, one, other)
    if road is None or not rises(houses, web[0]) or one not in houses or other in houses:
        return False
    out = outs(web, houses)
    if number not in out or any(rank(web, way) < rank(web, number) for way in out):
        return False
    return greatest(web, road) == number


class NarrowOf(unittest.TestCase):
    def test_by_the_words(self):
        for web in WEBS_HERE:
            for one, other in itertools.permutations(range(web[0]), 2):
                told = narrow_of(web, one, other)
                with self.subTest(web=web, one=one, other=other):
                    if road_in_forest(web, one, other) is None:
                        self.assertIsNone(told)
                        continue
                    self.assertEqual((type(told), type(told[0]), type(told[1])), (tuple, int, list))
                    self.assertTrue(is_narrow_by_words(web, one, other, *told))
                    self.assertIs(is_narrow(web, one, other, *told), True)

    def test_each_road_has_a_way_no_lesser(self):
        for web in SMALL[::3]:
            for one, other in itertools.permutations(range(web[0]), 2):
                roads = roads_between(web, one, other)
                told = narrow_of(web, one, other)
                self.assertEqual(told is None, not roads)
                if told:
                    least = min(rank(web, greatest(web, road)) for road in roads)
                    self.assertEqual(rank(web, told[0]), least)

    def test_either_way_about(self):
        for web in WEBS_HERE[::4]:
            for one, other in itertools.combinations(range(web[0]), 2):
                told, turned = narrow_of(web, one, other), narrow_of(web, other, one)
                self.assertEqual(told and told[0], turned and turned[0])

    def test_by_hand(self):
        self.assertEqual(narrow_of(TRIO, 0, 1)[0], 0)
        self.assertEqual(narrow_of(TRIO, 0, 2)[0], 1)
        self.assertEqual(narrow_of(TRIO, 2, 1), (1, [2]))
        self.assertEqual(narrow_of((2, ((0, 1, 5),)), 1, 0), (0, [1]))
        for one, other in ((0, 4), (5, 3), (6, 0), (4, 6)):
            self.assertIsNone(narrow_of(TOWN, one, other))
        self.assertIsNone(narrow_of((2, ()), 0, 1))

    def test_the_told_list_is_the_askers_own(self):
        told = narrow_of(TOWN, 0, 3)
        kept = (told[0], list(told[1]))
        told[1].append(99)
        self.assertEqual(narrow_of(TOWN, 0, 3), kept)


class IsNarrow(unittest.TestCase):
    def test_all_lists_and_numbers(self):
        shown = [0, 0]
        for web in [TRIO] + SMALL[3::12]:
            for one, other in itertools.permutations(range(web[0]), 2):
                for houses in lists_of(web[0]):
                    for number in range(-1, len(web[1]) + 1):
                        told = is_narrow(web, one, other, number, houses)
                        right = is_narrow_by_words(web, one, other, number, houses)
                        with self.subTest(web=web, one=one, other=other, number=number, houses=houses):
                            self.assertIs(told, right)
                        shown[right] += 1
        self.assertGreater(min(shown), 100)

    def test_of_greater_webs(self):
        chance = random.Random(26)
        for web in [TOWN, FULL] + some_webs(30):
            for _ in range(20 if web[0] > 1 else 0):
                one, other = chance.sample(range(web[0]), 2)
                houses = sorted(chance.sample(range(web[0]), chance.randint(1, web[0])))
                told = narrow_of(web, one, other)
                numbers = [chance.randint(0, len(web[1])), outs(web, houses)[:1], told and told[0]]
                for number in [number for number in numbers if isinstance(number, int)]:
                    right = is_narrow_by_words(web, one, other, number, houses)
                    self.assertIs(is_narrow(web, one, other, number, houses), right)

    def test_bent_lists(self):
        for web in [TOWN, TRIO, FULL]:
            for one, other in itertools.permutations(range(min(web[0], 4)), 2):
                number, houses = narrow_of(web, one, other)
                bent = [
                    houses + houses[-1:],
                    houses[:1] + houses,
                    houses + [web[0]],
                    houses + [10 ** 30],
                    [-1] + houses,
                    [-web[0]] + houses[1:],
                    [house for house in houses if house != one],
                    sorted(houses + [other]),
                    [],
                    list(range(web[0])),
                ]
                bent += [houses[::-1]] * (len(houses) > 1)
                for wrong in bent:
                    with self.subTest(web=web, one=one, other=other, houses=wrong):
                        self.assertIs(is_narrow(web, one, other, number, wrong), False)
                for far in (-1, number - len(web[1]), len(web[1]), 10 ** 30, -(10 ** 30)):
                    self.assertIs(is_narrow(web, one, other, far, houses), False)

    def test_the_least_way_out_that_is_not_the_narrow_one(self):
        # Out of 0 the way 0 is the least; between 0 and 2 the way 1 is the greatest of the road.
        self.assertIs(is_narrow(TRIO, 0, 2, 0, [0]), False)
        self.assertIs(is_narrow(TRIO, 0, 2, 1, [0]), False)
        self.assertIs(is_narrow(TRIO, 0, 2, 1, [0, 1]), True)

    def test_a_house_of_another_lot_in_the_list(self):
        number, houses = narrow_of(TOWN, 0, 3)
        self.assertIs(is_narrow(TOWN, 0, 3, number, houses + [6]), True)
        # The way 3 leads out, too, and is lesser.
        self.assertIs(is_narrow(TOWN, 0, 3, number, houses + [4]), False)
        self.assertIs(is_narrow(TOWN, 0, 3, number, houses + [4, 5, 6]), True)

    def test_houses_that_do_not_hang_together(self):
        for number in range(-1, 7):
            for houses in ([0], [0, 1, 2, 3], [], [0, 1, 2, 3, 6], [4, 5]):
                self.assertIs(is_narrow(TOWN, 0, 4, number, houses), False)
        # The least of the ways out, but on no road.
        self.assertIs(is_narrow(TOWN, 0, 6, 1, [0]), False)

    def test_the_list_stays_as_it_was(self):
        for houses in ([0], [3, 0, 0], [0, 99]):
            kept = list(houses)
            is_narrow(TOWN, 0, 3, 5, houses)
            self.assertEqual(houses, kept)


class Refusals(RefusesNoWeb, unittest.TestCase):
    asks = (narrow_of, is_narrow)
    further = ((0, 1, 0, [0]), (0, 0, 0, [0]), (None, -1, None, None))

    def test_no_web_goes_ahead(self):
        self.asks = (is_narrow,)
        super().test_no_web_goes_ahead()
        self.asks, self.further = (narrow_of,), ((0, 1), (0, 0), (None, -1), ([], "x"))
        super().test_no_web_goes_ahead()

    def refused(self, place, one, other):
        for ask, more in ((narrow_of, ()), (is_narrow, (1, [0])), (is_narrow, (-5, [9, 9]))):
            with self.subTest(ask.__name__, one=one, other=other):
                with self.assertRaises(NoHouse) as caught:
                    ask(TOWN, one, other, *more)
                self.assertEqual((caught.exception.place, type(caught.exception.place)), (place, int))

    def test_the_one(self):
        for thing in HOUSES_OUT:
            for other in (0, 1, 6):
                self.refused(0, thing, other)

    def test_the_other(self):
        for thing in HOUSES_OUT:
            for one in (0, 1, 6):
                self.refused(1, one, thing)

    def test_like_ones(self):
        for house in range(7):
            self.refused(1, house, house)

    def test_two_due_at_once(self):
        for one in HOUSES_OUT:
            for other in HOUSES_OUT:
                self.refused(0, one, other)

    def test_a_single_house(self):
        for one, other, place in ((0, 0, 1), (0, 1, 1), (1, 0, 0), (1, 1, 0)):
            with self.assertRaises(NoHouse) as caught:
                narrow_of((1, ()), one, other)
            self.assertEqual(caught.exception.place, place)


class NextBest(RefusesNoWeb, unittest.TestCase):
    asks = (next_best,)

    def check(self, web, told):
        """By the words of point 23, but for what no other forest may weigh."""
        self.assertEqual((type(told), [type(one) for one in told]), (tuple, [int] * 3))
        more, gone, come = told
        forest = greedy(web)
        self.assertIn(gone, forest)
        self.assertNotIn(come, forest)
        left = sorted([number for number in forest if number != gone] + [come])
        self.assertEqual(lots_by_walks(web, left), lots_by_walks(web, range(len(web[1]))))
        self.assertEqual(weight(web, left), weight(web, forest) + more)
        return left

    def test_against_all_forests(self):
        for web in small_webs(200):
            told = next_best(web)
            others = [forest for forest in forests(web) if forest != greedy(web)]
            with self.subTest(web=web):
                self.assertEqual(told is None, not others)
                if told:
                    left = self.check(web, told)
                    self.assertIn(left, others)
                    self.assertEqual(weight(web, left), min(weight(web, forest) for forest in others))

    def test_of_greater_webs(self):
        for web in list(WEBS) + some_webs(60):
            told, forest = next_best(web), greedy(web)
            exchanges = []
            for come in range(len(web[1])):
                if come not in forest:
                    road = road_in_forest(web, *web[1][come][:2])
                    exchanges += [web[1][come][2] - web[1][gone][2] for gone in road]
            with self.subTest(web=web):
                self.assertEqual(told is None, not exchanges)
                if told:
                    self.check(web, told)
                    self.assertEqual(told[0], min(exchanges))

    def test_by_hand(self):
        self.assertEqual(next_best(TRIO), (1, 1, 2))
        self.assertEqual(next_best((3, ((0, 1, 5), (0, 2, 5), (1, 2, 5))))[0], 0)
        web = (4, ((0, 1, 1), (1, 2, 2), (0, 2, 10), (2, 3, 50), (1, 3, 53)))
        self.assertEqual(next_best(web), (3, 3, 4))

    def test_but_one_forest(self):
        for web in ((1, ()), (12, ()), (2, ((0, 1, 5),)), (4, ((0, 1, 5), (0, 2, 5), (0, 3, 5)))):
            self.assertIsNone(next_best(web))


if __name__ == "__main__":
    unittest.main()
