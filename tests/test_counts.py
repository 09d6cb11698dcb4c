import itertools
import random
import unittest

from lotjoin.counts import forest_by, how_many, number_of
from lotjoin.errors import NoNumber
from lotjoin.forest import forest_of
from reckon import forests, goes_round, lists_of, lots_by_walks, weight
from refusals import RefusesNoWeb
from samples import FULL, MOST, ODD_THINGS, TOWN, WEBS, small_webs, some_webs

SMALL = small_webs(120)


def full_web(many, price):
    return (many, tuple((one, other, price) for one, other in itertools.combinations(range(many), 2)))


def two_sides(ones, others):
    """Each house of the one side has a way to each of the other."""
    ways = [(one, ones + other, 7) for one in range(ones) for other in range(others)]
    return (ones + others, tuple(ways))


def ring(many):
    return (many, tuple((house, house + 1, house) for house in range(many - 1)) + ((0, many - 1, 0),))


def ladder(rungs):
    ways = [(2 * rung, 2 * rung + 1, 1) for rung in range(rungs)]
    for rung in range(rungs - 1):
        ways += [(2 * rung, 2 * rung + 2, 1), (2 * rung + 1, 2 * rung + 3, 1)]
    return (2 * rungs, tuple(ways))


def forests_by_words(web):
    """All rising lists of ways without a ring whose lots are those of all ways, in Python's order."""
    lists = lists_of(len(web[1]))
    rings = [set(ways) for ways in lists if goes_round(web, ways)]
    lots = lots_by_walks(web, range(len(web[1])))
    free = [ways for ways in lists if not any(one <= set(ways) for one in rings)]
    return sorted(ways for ways in free if lots_by_walks(web, ways) == lots)


def many_by_taking_out(ties):
    """Forests of ties between names, by those without the first tie and those with it; ties may stand twice."""
    ties = [tie for tie in ties if tie[0] != tie[1]]
    if not ties:
        return 1
    (one, other), rest = ties[0], ties[1:]
    joined = [tuple(one if end == other else end for end in tie) for tie in rest]
    reached, grown = {one}, True
    while grown:
        near = {end for tie in rest if reached & set(tie) for end in tie}
        grown = not near <= reached
        reached |= near
    return many_by_taking_out(joined) + (many_by_taking_out(rest) if other in reached else 0)


class HowMany(RefusesNoWeb, unittest.TestCase):
    asks = (how_many,)

    def test_the_test_reckons_two_ways_alike(self):
        for web in SMALL[::5]:
            self.assertEqual(forests_by_words(web), sorted(forests(web)))
            self.assertEqual(many_by_taking_out([way[:2] for way in web[1]]), len(forests(web)))

    def test_against_all_lists(self):
        for web in SMALL:
            weights = [weight(web, ways) for ways in forests(web)]
            with self.subTest(web=web):
                self.assertEqual(how_many(web), (len(weights), weights.count(min(weights))))

    def test_no_ways(self):
        for many in range(1, 13):
            self.assertEqual(how_many((many, ())), (1, 1))

    def test_by_hand(self):
        self.assertEqual(how_many((2, ((0, 1, 5),))), (1, 1))
        self.assertEqual(how_many((3, ((0, 1, 5), (0, 2, 5), (1, 2, 5)))), (3, 3))
        self.assertEqual(how_many((3, ((0, 1, 4), (0, 2, 5), (1, 2, 5)))), (3, 2))
        self.assertEqual(how_many((3, ((0, 1, 5), (0, 2, 4), (1, 2, 4)))), (3, 1))
        self.assertEqual(how_many(TOWN), (8, 3))

    def test_full_webs(self):
        # Known counts: the many to the power of two fewer.
        for many in range(3, 9):
            told = how_many(full_web(many, 3))
            self.assertEqual(told, (many ** (many - 2),) * 2)

    def test_two_sides(self):
        # Known counts, up to thirty ways.
        for ones, others in ((1, 11), (2, 10), (3, 9), (3, 3), (4, 7), (5, 6), (2, 2)):
            right = ones ** (others - 1) * others ** (ones - 1)
            self.assertEqual(how_many(two_sides(ones, others)), (right, right))

    def test_rings_and_ladders(self):
        for many in range(3, 13):
            self.assertEqual(how_many(ring(many))[0], many)
        for rungs, many in ((1, 1), (2, 4), (3, 15), (4, 56), (5, 209), (6, 780)):
            self.assertEqual(how_many(ladder(rungs)), (many, many))

    def test_several_parts(self):
        web = full_web(5, 1)
        both = (10, web[1] + tuple((one + 5, other + 5, price) for one, other, price in web[1]))
        self.assertEqual(how_many(both), (125 * 125, 125 * 125))
        self.assertEqual(how_many((12, both[1])), (125 * 125, 125 * 125))

    def test_by_taking_out(self):
        chance = random.Random(24)
        for _ in range(12):
            pairs = list(itertools.combinations(range(8), 2))
            ways = tuple((one, other, chance.randint(0, 2)) for one, other in chance.sample(pairs, 13))
            right = many_by_taking_out([way[:2] for way in ways])
            self.assertEqual(how_many((8, ways))[0], right)

    def test_prices_far_apart(self):
        web = (4, ((0, 1, 0), (1, 2, MOST), (2, 3, 0), (0, 3, MOST), (0, 2, MOST), (1, 3, MOST - 1)))
        self.assertEqual(how_many(web), (16, 1))
        web = (4, ((0, 1, 0), (1, 2, MOST), (2, 3, 0), (0, 3, MOST), (0, 2, MOST), (1, 3, MOST)))
        self.assertEqual(how_many(web), (16, 4))

    def test_kinds(self):
        for web in WEBS:
            told = how_many(web)
            self.assertEqual((type(told), [type(one) for one in told]), (tuple, [int, int]))
            self.assertLessEqual(1, told[1])
            self.assertLessEqual(told[1], told[0])


class ForestBy(RefusesNoWeb, unittest.TestCase):
    asks = (forest_by,)
    further = ((0,), (-1,), (None,), ([],), (10 ** 30,))

    def test_all_of_small_webs(self):
        for web in SMALL:
            with self.subTest(web=web):
                told = [forest_by(web, number) for number in range(len(forests(web)))]
                self.assertEqual(told, sorted(forests(web)))

    def test_great_webs(self):
        chance = random.Random(25)
        for web in [FULL, full_web(8, 1), two_sides(5, 6), ladder(6), ring(12)] + some_webs(25):
            many = how_many(web)[0]
            numbers = sorted({0, many - 1, many // 2} | {chance.randrange(many) for _ in range(4)})
            told = [forest_by(web, number) for number in numbers]
            self.assertEqual(told, sorted(told))
            self.assertEqual(len(set(map(tuple, told))), len(numbers))
            self.assertEqual([number_of(web, forest) for forest in told], numbers)
            lots = lots_by_walks(web, range(len(web[1])))
            for forest in told:
                self.assertEqual(lots_by_walks(web, forest), lots)
                self.assertEqual(len(forest), web[0] - len(lots))

    def test_the_order_is_that_of_numbers(self):
        # By texts 10 would go ahead of 2.
        web = ring(12)
        told = [forest_by(web, number) for number in range(12)]
        self.assertEqual(told, [[way for way in range(12) if way != out] for out in range(11, -1, -1)])

    def test_no_number(self):
        for web in WEBS:
            many = how_many(web)[0]
            for thing in ODD_THINGS + (-1, many, many + 1, -(10 ** 30), 10 ** 30, [], [0]):
                with self.subTest(web=web, number=thing), self.assertRaises(NoNumber):
                    forest_by(web, thing)
            forest_by(web, many - 1)

    def test_the_told_list_is_the_askers_own(self):
        for number in range(8):
            told = forest_by(TOWN, number)
            self.assertIs(type(told), list)
            kept = list(told)
            told.append(99)
            self.assertEqual(forest_by(TOWN, number), kept)
        forest_by((1, ()), 0).append(99)
        self.assertEqual(forest_by((1, ()), 0), [])


class NumberOf(RefusesNoWeb, unittest.TestCase):
    asks = (number_of,)
    further = (([],), ([0],), ([9, 9],), (None,))

    def test_all_lists_of_small_webs(self):
        for web in SMALL[::3]:
            right = sorted(forests(web))
            for ways in lists_of(len(web[1])):
                with self.subTest(web=web, ways=ways):
                    self.assertEqual(number_of(web, ways), right.index(ways) if ways in right else None)

    def test_lists_that_do_not_rise(self):
        for web in SMALL[::9] + [TOWN]:
            for forest in forests(web):
                for turned in itertools.islice(itertools.permutations(forest), 1, 8):
                    self.assertIsNone(number_of(web, list(turned)))
                if forest:
                    self.assertIsNone(number_of(web, forest + forest[-1:]))
                    self.assertIsNone(number_of(web, forest[:1] + forest))

    def test_far_and_below_nought(self):
        for forest in forests(TOWN):
            for far in (6, 7, 10 ** 30):
                self.assertIsNone(number_of(TOWN, forest + [far]))
                self.assertIsNone(number_of(TOWN, forest[:-1] + [far]))
            for below in (-1, -6, -(10 ** 30)):
                self.assertIsNone(number_of(TOWN, [below] + forest))
                self.assertIsNone(number_of(TOWN, [below] + forest[1:]))
            # From behind these would be the same ways.
            self.assertIsNone(number_of(TOWN, [number - 6 for number in forest]))

    def test_too_few_and_too_many(self):
        for forest in forests(TOWN):
            for place in range(len(forest)):
                self.assertIsNone(number_of(TOWN, forest[:place] + forest[place + 1:]))
            for more in range(6):
                if more not in forest:
                    self.assertIsNone(number_of(TOWN, sorted(forest + [more])))

    def test_a_ring_with_as_many_ways(self):
        web = (4, ((0, 1, 1), (1, 2, 1), (0, 2, 1), (2, 3, 1)))
        self.assertIsNone(number_of(web, [0, 1, 2]))
        self.assertEqual(number_of(web, [0, 1, 3]), 0)

    def test_no_ways(self):
        for many in (1, 12):
            self.assertEqual(number_of((many, ()), []), 0)
            self.assertIsNone(number_of((many, ()), [0]))
        self.assertIsNone(number_of((2, ((0, 1, 5),)), []))

    def test_the_one_forest_has_a_number(self):
        for web in list(WEBS) + some_webs(20):
            forest = forest_of(web)
            self.assertEqual(forest_by(web, number_of(web, forest)), forest)

    def test_the_list_stays_as_it_was(self):
        for ways in ([0, 1, 3, 4], [4, 3], [99], []):
            kept = list(ways)
            number_of(TOWN, ways)
            self.assertEqual(ways, kept)

    def test_kinds(self):
        self.assertIs(type(number_of(TOWN, forest_of(TOWN))), int)


if __name__ == "__main__":
    unittest.main()
