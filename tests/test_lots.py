import unittest

from lotjoin.errors import NoWay, NoWeb
from lotjoin.lots import lots_of, need_ways, weight_of
from samples import FULL, ODD_THINGS, TOWN, WEBS, nested, some_ways, some_webs

ALL = (need_ways, lots_of, weight_of)

# Of TOWN, which has the ways 0 to 5: a list, and the place that is refused.
REFUSED = (
    ([-1], 0),
    ([6], 0),
    ([0, 1, 2, 3, 4, 5, 6], 6),
    ([0, -1, 2], 1),
    ([5, 6, 7], 1),
    ([10 ** 30], 0),
    ([0, 1, 2 ** 64], 2),
    ([-(10 ** 30)], 0),
    ([True], 0),
    ([False], 0),
    ([2, True], 1),
    ([2, 3, False], 2),
    ([True, 1], 0),
    ([1, True], 1),
    ([0, False], 1),
    (["0"], 0),
    ([0, "1", 2], 1),
    ([0, ""], 1),
    ([[]], 0),
    ([0, [1]], 1),
    ([0, 1, (2,)], 2),
    ([()], 0),
    ([None], 0),
    ([4, 3, None], 2),
    ([nested(list, 7, 1)], 0),
    ([0, nested(tuple, 7, 1)], 1),
    ([0, 0], 1),
    ([1, 2, 1], 2),
    ([5, 4, 3, 2, 1, 0, 5], 6),
    # Two wrong things at once: the first of them.
    ([0, 6, 0], 1),
    ([0, 0, 6], 1),
    ([None, True], 0),
    ([3, 3, 3], 1),
    ([1, 2, 2, 1], 2),
    ([2, [], []], 1),
    ([2, None, 2], 1),
)

NO_LISTS = (None, True, False, 0, 3, -1, 10 ** 30, "", "0", "abc", (), (0,), (0, 1), (6,), ((),), ([0],))


def lots_by_walks(web, ways):
    roads = {house: [] for house in range(web[0])}
    for number in ways:
        one, other, _ = web[1][number]
        roads[one].append(other)
        roads[other].append(one)
    lots, seen = [], set()
    for house in range(web[0]):
        if house in seen:
            continue
        lot, ahead = {house}, [house]
        while ahead:
            for near in roads[ahead.pop()]:
                if near not in lot:
                    lot.add(near)
                    ahead.append(near)
        seen |= lot
        lots.append(sorted(lot))
    return lots


class NeedWays(unittest.TestCase):
    def test_ways_are_taken(self):
        for web in list(WEBS) + some_webs(20):
            for ways in some_ways(web, 5):
                self.assertIsNone(need_ways(web, ways))

    def test_the_last_number(self):
        self.assertIsNone(need_ways(FULL, [29]))
        with self.assertRaises(NoWay):
            need_ways(FULL, [30])

    def test_without_ways_no_number_is_one(self):
        self.assertIsNone(need_ways((3, ()), []))
        for number in (-1, 0, 1):
            with self.subTest(number), self.assertRaises(NoWay):
                need_ways((3, ()), [number])


class LotsOf(unittest.TestCase):
    def test_no_ways(self):
        self.assertEqual(lots_of(TOWN, []), [[0], [1], [2], [3], [4], [5], [6]])
        self.assertEqual(lots_of((1, ()), []), [[0]])

    def test_all_ways(self):
        self.assertEqual(lots_of(TOWN, [0, 1, 2, 3, 4, 5]), [[0, 1, 2, 3], [4, 5], [6]])

    def test_a_ring(self):
        self.assertEqual(lots_of(TOWN, [0, 1, 2]), [[0, 1, 2], [3], [4], [5], [6]])

    def test_any_order(self):
        self.assertEqual(lots_of(TOWN, [4, 3, 0]), [[0], [1, 2, 3], [4, 5], [6]])
        self.assertEqual(lots_of(TOWN, [0, 3, 4]), [[0], [1, 2, 3], [4, 5], [6]])

    def test_lots_lie_across_one_another(self):
        web = (6, ((0, 5, 1), (1, 4, 1), (2, 3, 1), (4, 5, 1)))
        self.assertEqual(lots_of(web, [2, 1, 0]), [[0, 5], [1, 4], [2, 3]])
        self.assertEqual(lots_of(web, [3, 1, 0]), [[0, 1, 4, 5], [2], [3]])

    def test_great_lots_join(self):
        web = (6, ((2, 4, 1), (4, 5, 1), (0, 3, 1), (1, 3, 1), (3, 5, 1)))
        self.assertEqual(lots_of(web, [0, 1, 2, 3]), [[0, 1, 3], [2, 4, 5]])
        self.assertEqual(lots_of(web, [0, 1, 2, 3, 4]), [[0, 1, 2, 3, 4, 5]])

    def test_as_walks_find_them(self):
        for web in list(WEBS) + some_webs(150):
            for ways in some_ways(web, 8):
                with self.subTest(web=web, ways=ways):
                    self.assertEqual(lots_of(web, ways), lots_by_walks(web, ways))

    def test_lists_of_lists(self):
        told = lots_of(TOWN, [0])
        self.assertIsInstance(told, list)
        self.assertTrue(all(isinstance(lot, list) for lot in told))

    def test_the_told_lists_are_the_askers_own(self):
        ways = [0, 3]
        right = [[0], [1, 2], [3], [4, 5], [6]]
        told = lots_of(TOWN, ways)
        for lot in told:
            lot.append(99)
        told.pop()
        again = lots_of(TOWN, ways)
        self.assertEqual(again, right)
        again[1].clear()
        again.clear()
        self.assertEqual(lots_of(TOWN, ways), right)

    def test_nothing_told_changes_later(self):
        ways = [0, 3]
        told = lots_of(TOWN, ways)
        ways.append(4)
        lots_of(TOWN, ways)
        self.assertEqual(told, [[0], [1, 2], [3], [4, 5], [6]])


class WeightOf(unittest.TestCase):
    def test_sums(self):
        self.assertEqual(weight_of(TOWN, []), 0)
        self.assertEqual(weight_of(TOWN, [3]), 0)
        self.assertEqual(weight_of(TOWN, [0]), 5)
        self.assertEqual(weight_of(TOWN, [5, 0, 1]), 17)
        self.assertEqual(weight_of(TOWN, [0, 1, 2, 3, 4, 5]), 10 ** 9 + 22)
        self.assertEqual(weight_of((1, ()), []), 0)

    def test_great_prices(self):
        web = (12, tuple((one, other, 10 ** 9) for one, other, _ in FULL[1]))
        self.assertEqual(weight_of(web, list(range(30))), 30 * 10 ** 9)

    def test_in_any_order(self):
        for web in some_webs(50):
            for ways in some_ways(web, 4):
                right = sum(web[1][number][2] for number in ways)
                self.assertEqual(weight_of(web, ways), right)
                self.assertEqual(weight_of(web, sorted(ways)), right)


class Alike(unittest.TestCase):
    def test_the_list_stays_as_it_was(self):
        for ask in ALL:
            for web in WEBS:
                for ways in some_ways(web, 4):
                    kept = list(ways)
                    ask(web, ways)
                    self.assertEqual(ways, kept)

    def test_a_refused_list_stays_as_it_was(self):
        for ask in ALL:
            ways = [3, 1, [2], 1]
            with self.assertRaises(NoWay):
                ask(TOWN, ways)
            self.assertEqual(ways, [3, 1, [2], 1])

    def test_a_refusal_changes_nothing(self):
        for ask in ALL:
            right = ask(TOWN, [3, 1])
            with self.assertRaises(NoWay):
                ask(TOWN, [3, 1, 3])
            self.assertEqual(ask(TOWN, [3, 1]), right)

    def test_refused_with_the_place(self):
        for ask in ALL:
            for ways, place in REFUSED:
                with self.subTest(ask.__name__, ways=ways):
                    with self.assertRaises(NoWay) as caught:
                        ask(TOWN, ways)
                    self.assertEqual(caught.exception.place, place)
                    self.assertIs(type(caught.exception.place), int)

    def test_odd_things_behind_right_ones(self):
        for ask in ALL:
            for odd in ODD_THINGS:
                for ahead in range(4):
                    ways = list(range(5, 5 - ahead, -1)) + [odd]
                    with self.subTest(ask.__name__, ways=ways):
                        with self.assertRaises(NoWay) as caught:
                            ask(TOWN, ways)
                        self.assertEqual(caught.exception.place, ahead)

    def test_no_list(self):
        for ask in ALL:
            for thing in NO_LISTS:
                with self.subTest(ask.__name__, thing=thing):
                    with self.assertRaises(NoWay) as caught:
                        ask(TOWN, thing)
                    self.assertEqual(caught.exception.place, 0)

    def test_no_web(self):
        for ask in ALL:
            for web in ((0, ()), (13, ()), [2, ()], (2, []), (2, ((1, 0, 5),)), (True, ()), None, "", ()):
                with self.subTest(ask.__name__, web=web), self.assertRaises(NoWeb):
                    ask(web, [])

    def test_no_web_goes_ahead(self):
        for ask in ALL:
            for ways in (None, (), "", [0, 0], [True], [99]):
                with self.subTest(ask.__name__, ways=ways), self.assertRaises(NoWeb):
                    ask((2, ((0, 1, -1),)), ways)
                with self.subTest(ask.__name__, ways=ways), self.assertRaises(NoWeb):
                    ask(None, ways)


if __name__ == "__main__":
    unittest.main()
