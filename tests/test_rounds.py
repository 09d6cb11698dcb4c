import random
import unittest

from lotjoin.forest import forest_of
from lotjoin.rounds import round_of, rounds_of
from reckon import greedy, lists_of, lots_by_walks, outs, rank
from refusals import RefusesNoWeb, RefusesWays
from samples import FULL, MOST, TOWN, WEBS, small_webs, some_ways, some_webs

# Joined in three rounds: pairs, then fours, then all.
LINE = (8, ((0, 1, 1), (1, 2, 5), (2, 3, 2), (3, 4, 9), (4, 5, 3), (5, 6, 6), (6, 7, 4)))


def least_outs(web, ways):
    found = set()
    for lot in lots_by_walks(web, ways):
        out = outs(web, lot)
        if out:
            found.add(min(out, key=lambda number: rank(web, number)))
    return sorted(found)


class RoundOf(RefusesWays, unittest.TestCase):
    asks = (round_of,)

    def test_from_no_ways(self):
        self.assertEqual(round_of(LINE, []), [0, 2, 4, 6])
        self.assertEqual(round_of(TOWN, []), [1, 2, 3, 5])

    def test_from_some_ways(self):
        self.assertEqual(round_of(LINE, [0, 2, 4, 6]), [1, 5])
        self.assertEqual(round_of(LINE, [6, 1, 4, 0, 2, 5]), [3])
        self.assertEqual(round_of(TOWN, [4]), [1, 2, 3])

    def test_all_lots_whole(self):
        self.assertEqual(round_of(LINE, [0, 1, 2, 3, 4, 5, 6]), [])
        self.assertEqual(round_of(TOWN, [4, 3, 1, 0]), [])
        for many in range(1, 13):
            self.assertEqual(round_of((many, ()), []), [])

    def test_one_lot_whole_the_other_not(self):
        self.assertEqual(round_of(TOWN, [3, 0]), [1, 5])

    def test_ways_with_a_ring(self):
        self.assertEqual(round_of(TOWN, [0, 1, 2]), [3, 5])
        self.assertEqual(round_of(TOWN, [2, 1, 0, 4]), [3])
        self.assertEqual(round_of(TOWN, [5, 4, 3, 2, 1, 0]), [])

    def test_ways_that_are_not_the_forests(self):
        self.assertEqual(round_of(LINE, [3]), [0, 2, 4, 6])
        self.assertEqual(round_of((3, ((0, 1, 1), (0, 2, 2), (1, 2, 3))), [2]), [0])

    def test_like_prices_by_the_ends(self):
        self.assertEqual(round_of((3, ((1, 2, 5), (0, 2, 5), (0, 1, 5))), []), [1, 2])
        self.assertEqual(round_of((4, ((2, 3, 0), (1, 2, 0), (0, 1, 0))), []), [0, 1, 2])
        self.assertEqual(round_of((4, ((2, 3, 0), (1, 2, 0), (0, 1, 0), (0, 3, MOST))), [0, 2]), [1])

    def test_each_lots_least_way_out(self):
        for web in list(WEBS) + some_webs(150):
            for ways in some_ways(web, 8):
                with self.subTest(web=web, ways=ways):
                    told = round_of(web, ways)
                    self.assertIs(type(told), list)
                    self.assertEqual(told, least_outs(web, ways))

    def test_every_list_of_ways(self):
        for web in small_webs(20)[::3]:
            for ways in lists_of(len(web[1])):
                with self.subTest(web=web, ways=ways):
                    self.assertEqual(round_of(web, ways), least_outs(web, ways))

    def test_in_any_order(self):
        chance = random.Random(10)
        for web in (TOWN, FULL, LINE):
            for ways in some_ways(web, 8):
                right = round_of(web, ways)
                chance.shuffle(ways)
                self.assertEqual(round_of(web, ways), right)

    def test_the_list_stays_as_it_was(self):
        for web in WEBS + (LINE,):
            for ways in some_ways(web, 4):
                kept = list(ways)
                round_of(web, ways)
                self.assertEqual(ways, kept)

    def test_the_told_list_is_the_askers_own(self):
        ways = [0, 2]
        told = round_of(LINE, ways)
        kept = list(told)
        told.append(99)
        ways.append(1)
        self.assertEqual(round_of(LINE, [0, 2]), kept)
        self.assertEqual(told, kept + [99])


class RoundsOf(RefusesNoWeb, unittest.TestCase):
    asks = (rounds_of,)

    def test_line(self):
        self.assertEqual(rounds_of(LINE), [[0, 2, 4, 6], [1, 5], [3]])

    def test_town(self):
        self.assertEqual(rounds_of(TOWN), [[1, 2, 3, 5]])

    def test_two_parts_of_unlike_rounds(self):
        web = (6, ((0, 1, 1), (1, 2, 5), (2, 3, 2), (4, 5, 0)))
        self.assertEqual(rounds_of(web), [[0, 2, 3], [1]])

    def test_no_ways(self):
        for many in range(1, 13):
            self.assertEqual(rounds_of((many, ())), [])

    def test_rounds_one_by_one(self):
        for web in list(WEBS) + [LINE] + small_webs(60) + some_webs(150):
            with self.subTest(web=web):
                put_in = []
                for told in rounds_of(web):
                    self.assertEqual(told, least_outs(web, put_in))
                    self.assertNotEqual(told, [])
                    put_in = put_in + told
                self.assertEqual(least_outs(web, put_in), [])

    def test_together_they_are_the_forest(self):
        for web in list(WEBS) + [LINE] + small_webs(60) + some_webs(150):
            with self.subTest(web=web):
                together = [number for told in rounds_of(web) for number in told]
                self.assertEqual(sorted(together), greedy(web))
                self.assertEqual(sorted(together), forest_of(web))

    def test_at_most_half_as_many_lots(self):
        for web in [FULL, LINE] + some_webs(150):
            put_in = []
            for told in rounds_of(web):
                for whole in lots_by_walks(web, range(len(web[1]))):
                    ahead = self.lots_within(web, put_in, whole)
                    behind = self.lots_within(web, put_in + told, whole)
                    self.assertTrue(ahead == 1 or 2 * behind <= ahead)
                put_in = put_in + told

    def lots_within(self, web, ways, whole):
        return len([lot for lot in lots_by_walks(web, ways) if lot[0] in whole])

    def test_kinds(self):
        told = rounds_of(FULL)
        self.assertIs(type(told), list)
        self.assertEqual({type(one) for one in told}, {list})

    def test_the_told_lists_are_the_askers_own(self):
        for web in (LINE, FULL):
            told = rounds_of(web)
            kept = [list(one) for one in told]
            for one in told:
                one.append(99)
            told.pop()
            self.assertEqual(rounds_of(web), kept)


if __name__ == "__main__":
    unittest.main()
