import unittest

from lotjoin.errors import NoWay
from lotjoin.lots import lots_of, need_ways, weight_of
from reckon import lots_by_walks
from refusals import RefusesWays
from samples import FULL, TOWN, WEBS, some_ways, some_webs

ALL = (need_ways, lots_of, weight_of)


class NeedWays(unittest.TestCase):
    def test_ways_are_taken(self):
        for web in list(WEBS) + some_webs(20):
            for ways in some_ways(web, 5):
                self.assertIsNone(need_ways(web, ways))

    def test_the_last_number(self):
        self.assertIsNone(need_ways(FULL, [29]))
        with self.assertRaises(NoWay):
            need_ways(FULL, [30])

    def test_without_ways_no_number_is_one(self):
        self.assertIsNone(need_ways((3, ()), []))
        for number in (-1, 0, 1):
            with self.subTest(number), self.assertRaises(NoWay):
                need_ways((3, ()), [number])


class LotsOf(unittest.TestCase):
    def test_no_ways(self):
        self.assertEqual(lots_of(TOWN, []), [[0], [1], [2], [3], [4], [5], [6]])
        self.assertEqual(lots_of((1, ()), []), [[0]])

    def test_all_ways(self):
        self.assertEqual(lots_of(TOWN, [0, 1, 2, 3, 4, 5]), [[0, 1, 2, 3], [4, 5], [6]])

    def test_a_ring(self):
        self.assertEqual(lots_of(TOWN, [0, 1, 2]), [[0, 1, 2], [3], [4], [5], [6]])

    def test_any_order(self):
        self.assertEqual(lots_of(TOWN, [4, 3, 0]), [[0], [1, 2, 3], [4, 5], [6]])
        self.assertEqual(lots_of(TOWN, [0, 3, 4]), [[0], [1, 2, 3], [4, 5], [6]])

    def test_lots_lie_across_one_another(self):
        web = (6, ((0, 5, 1), (1, 4, 1), (2, 3, 1), (4, 5, 1)))
        self.assertEqual(lots_of(web, [2, 1, 0]), [[0, 5], [1, 4], [2, 3]])
        self.assertEqual(lots_of(web, [3, 1, 0]), [[0, 1, 4, 5], [2], [3]])

    def test_great_lots_join(self):
        web = (6, ((2, 4, 1), (4, 5, 1), (0, 3, 1), (1, 3, 1), (3, 5, 1)))
        self.assertEqual(lots_of(web, [0, 1, 2, 3]), [[0, 1, 3], [2, 4, 5]])
        self.assertEqual(lots_of(web, [0, 1, 2, 3, 4]), [[0, 1, 2, 3, 4, 5]])

    def test_as_walks_find_them(self):
        for web in list(WEBS) + some_webs(150):
            for ways in some_ways(web, 8):
                with self.subTest(web=web, ways=ways):
                    self.assertEqual(lots_of(web, ways), lots_by_walks(web, ways))

    def test_lists_of_lists(self):
        told = lots_of(TOWN, [0])
        self.assertIsInstance(told, list)
        self.assertTrue(all(isinstance(lot, list) for lot in told))

    def test_the_told_lists_are_the_askers_own(self):
        ways = [0, 3]
        right = [[0], [1, 2], [3], [4, 5], [6]]
        told = lots_of(TOWN, ways)
        for lot in told:
            lot.append(99)
        told.pop()
        again = lots_of(TOWN, ways)
        self.assertEqual(again, right)
        again[1].clear()
        again.clear()
        self.assertEqual(lots_of(TOWN, ways), right)

    def test_nothing_told_changes_later(self):
        ways = [0, 3]
        told = lots_of(TOWN, ways)
        ways.append(4)
        lots_of(TOWN, ways)
        self.assertEqual(told, [[0], [1, 2], [3], [4, 5], [6]])


class WeightOf(unittest.TestCase):
    def test_sums(self):
        self.assertEqual(weight_of(TOWN, []), 0)
        self.assertEqual(weight_of(TOWN, [3]), 0)
        self.assertEqual(weight_of(TOWN, [0]), 5)
        self.assertEqual(weight_of(TOWN, [5, 0, 1]), 17)
        self.assertEqual(weight_of(TOWN, [0, 1, 2, 3, 4, 5]), 10 ** 9 + 22)
        self.assertEqual(weight_of((1, ()), []), 0)

    def test_great_prices(self):
        web = (12, tuple((one, other, 10 ** 9) for one, other, _ in FULL[1]))
        self.assertEqual(weight_of(web, list(range(30))), 30 * 10 ** 9)

    def test_in_any_order(self):
        for web in some_webs(50):
            for ways in some_ways(web, 4):
                right = sum(web[1][number][2] for number in ways)
                self.assertEqual(weight_of(web, ways), right)
                self.assertEqual(weight_of(web, sorted(ways)), right)


class Alike(RefusesWays, unittest.TestCase):
    asks = ALL

    def test_the_list_stays_as_it_was(self):
        for ask in ALL:
            for web in WEBS:
                for ways in some_ways(web, 4):
                    kept = list(ways)
                    ask(web, ways)
                    self.assertEqual(ways, kept)


if __name__ == "__main__":
    unittest.main()
