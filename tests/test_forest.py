import unittest

from lotjoin.forest import forest_of, is_shown, reasons_of
from reckon import forests, greedy, is_right, lists_of, lots_by_walks, outs, rank, shows, weight
from refusals import RefusesNoWeb
from samples import FULL, MOST, ODD_THINGS, TOWN, WEBS, small_webs, some_webs

TREE = (5, ((3, 4, 9), (0, 3, 0), (1, 3, 9), (1, 2, MOST)))
RING = (5, ((3, 4, 2), (0, 1, 2), (0, 4, 2), (2, 3, 1), (1, 2, 1)))
# Rings 0 1 2 and 3 4 6, and the house 5 alone.
TWO_PARTS = (7, ((4, 6, 3), (0, 2, 1), (3, 6, 3), (0, 1, 1), (3, 4, 2), (1, 2, 2)))
# Two rings that share one house: together no ring.
EIGHT = (5, ((0, 1, 1), (0, 2, 2), (1, 2, 3), (2, 3, 1), (2, 4, 2), (3, 4, 3)))

# Wrong lists of numbers of TOWN's ways and houses, of which there are fewer than eight.
FAR = (-1, 7, 8, 29, 30, 99, 10 ** 30, -(10 ** 30))


def changed(numbers, many):
    """Lists near this one: a number more, fewer, twice, far, all turned about."""
    lists = [numbers[::-1], numbers + numbers, [], list(range(many))]
    for place in range(len(numbers) + 1):
        for number in tuple(range(-1, many + 2)) + FAR:
            lists.append(numbers[:place] + [number] + numbers[place:])
    for place, number in enumerate(numbers):
        lists.append(numbers[:place] + numbers[place + 1:])
        lists.append(numbers[:place] + [number, number] + numbers[place + 1:])
        for far in FAR:
            lists.append(numbers[:place] + [far] + numbers[place + 1:])
    return lists


def with_reason(reasons, place, reason):
    return reasons[:place] + [reason] + reasons[place + 1:]


class ForestOf(RefusesNoWeb, unittest.TestCase):
    asks = (forest_of,)

    def test_town(self):
        self.assertEqual(forest_of(TOWN), [1, 2, 3, 5])

    def test_like_prices_by_the_ends(self):
        self.assertEqual(forest_of((3, ((1, 2, 5), (0, 2, 5), (0, 1, 5)))), [1, 2])
        self.assertEqual(forest_of((3, ((0, 1, 5), (1, 2, 5), (0, 2, 5)))), [0, 2])
        full = (4, ((2, 3, 0), (1, 3, 0), (0, 3, 0), (1, 2, 0), (0, 2, 0), (0, 1, 0)))
        self.assertEqual(forest_of(full), [2, 4, 5])

    def test_the_price_goes_ahead_of_the_ends(self):
        self.assertEqual(forest_of((3, ((0, 1, 6), (0, 2, 5), (1, 2, 5)))), [1, 2])

    def test_prices_as_numbers(self):
        self.assertEqual(forest_of((3, ((0, 1, 10), (0, 2, 9), (1, 2, 100)))), [0, 1])

    def test_a_ring_loses_its_greatest(self):
        self.assertEqual(forest_of(RING), [1, 2, 3, 4])

    def test_a_tree_stays_whole(self):
        self.assertEqual(forest_of(TREE), [0, 1, 2, 3])

    def test_two_parts(self):
        self.assertEqual(forest_of(TWO_PARTS), [1, 2, 3, 4])
        self.assertEqual(forest_of(EIGHT), [0, 1, 3, 4])

    def test_no_ways(self):
        for many in range(1, 13):
            self.assertEqual(forest_of((many, ())), [])

    def test_twelve_houses(self):
        line = (12, tuple((house, house + 1, 12 - house) for house in range(11)))
        self.assertEqual(forest_of(line), list(range(11)))
        star = (12, tuple((0, house, MOST) for house in range(11, 0, -1)) + ((10, 11, MOST), (1, 2, MOST - 1)))
        self.assertEqual(forest_of(star), [0, 1, 2, 3, 4, 5, 6, 7, 8, 10, 12])

    def test_as_put_in_one_by_one(self):
        for web in list(WEBS) + some_webs(200):
            with self.subTest(web=web):
                told = forest_of(web)
                self.assertIsInstance(told, list)
                self.assertEqual(told, greedy(web))

    def test_none_weighs_less(self):
        for web in small_webs(60):
            told = forest_of(web)
            all_forests = forests(web)
            with self.subTest(web=web):
                self.assertIn(told, all_forests)
                self.assertEqual(weight(web, told), min(weight(web, ways) for ways in all_forests))

    def test_of_all_forests_the_one_of_the_least_ways(self):
        for web in small_webs(60):
            ranked = [(sorted(rank(web, number) for number in ways), ways) for ways in forests(web)]
            with self.subTest(web=web):
                self.assertEqual(forest_of(web), min(ranked)[1])

    def test_the_told_list_is_the_askers_own(self):
        for web in (TOWN, FULL, TREE, (1, ())):
            told = forest_of(web)
            kept = list(told)
            told.append(99)
            told.reverse()
            self.assertEqual(forest_of(web), kept)


class ReasonsOf(RefusesNoWeb, unittest.TestCase):
    asks = (reasons_of,)

    def test_each_is_right(self):
        for web in list(WEBS) + [TREE, RING, TWO_PARTS, EIGHT] + small_webs(60) + some_webs(150):
            reasons = reasons_of(web)
            forest = greedy(web)
            self.assertEqual(len(reasons), len(web[1]))
            for number, reason in enumerate(reasons):
                with self.subTest(web=web, number=number):
                    self.assertEqual(reason[0], "cut" if number in forest else "ring")
                    self.assertTrue(is_right(web, number, reason))

    def test_kinds(self):
        for web in (TOWN, FULL):
            reasons = reasons_of(web)
            self.assertIs(type(reasons), list)
            for reason in reasons:
                self.assertIs(type(reason), tuple)
                self.assertEqual(len(reason), 2)
                self.assertIs(type(reason[0]), str)
                self.assertIs(type(reason[1]), list)
                self.assertEqual({type(number) for number in reason[1]}, {int})

    def test_where_there_is_but_one_reason(self):
        self.assertEqual(reasons_of((3, ((0, 1, 1), (1, 2, 2), (0, 2, 3))))[2], ("ring", [0, 1]))
        self.assertEqual(reasons_of(RING)[0], ("ring", [1, 2, 3, 4]))
        self.assertIn(reasons_of((2, ((0, 1, 7),))), ([("cut", [0])], [("cut", [1])]))

    def test_no_ways(self):
        self.assertEqual(reasons_of((1, ())), [])
        self.assertEqual(reasons_of((12, ())), [])

    def test_the_told_lists_are_the_askers_own(self):
        for web in (TOWN, FULL, RING):
            told = reasons_of(web)
            kept = [(word, list(numbers)) for word, numbers in told]
            for _, numbers in told:
                numbers.append(99)
            told.pop()
            self.assertEqual(reasons_of(web), kept)
            for _, numbers in reasons_of(web):
                numbers.clear()
            self.assertEqual(reasons_of(web), kept)

    def test_no_list_stands_in_two_reasons(self):
        for web in (TOWN, FULL, EIGHT):
            lists = [reason[1] for reason in reasons_of(web)]
            self.assertEqual(len({id(numbers) for numbers in lists}), len(lists))


class IsShown(RefusesNoWeb, unittest.TestCase):
    asks = (is_shown,)
    further = (([], []), ([0], [("cut", [0])]), ([0, 0], []), ([99], [("", [])]))

    def check(self, web, forest, reasons):
        with self.subTest(web=web, forest=forest, reasons=reasons):
            told = is_shown(web, forest, reasons)
            self.assertIs(type(told), bool)
            self.assertEqual(told, shows(web, forest, reasons))
        return told

    def test_what_is_told_shows(self):
        for web in list(WEBS) + [TREE, RING, TWO_PARTS, EIGHT] + small_webs(60) + some_webs(150):
            with self.subTest(web=web):
                self.assertIs(is_shown(web, forest_of(web), reasons_of(web)), True)

    def test_other_right_reasons(self):
        web = (4, ((0, 1, 1), (1, 2, 2), (2, 3, 3), (0, 3, 4)))
        ring = ("ring", [0, 1, 2])
        for first in ([0], [1], [0, 2], [0, 3], [1, 2], [1, 3], [0, 2, 3], [1, 2, 3]):
            for second in ([0, 1], [2], [2, 3], [0, 1, 3]):
                for third in ([3], [0, 1, 2]):
                    reasons = [("cut", first), ("cut", second), ("cut", third), ring]
                    self.assertIs(is_shown(web, [0, 1, 2], reasons), True)

    def test_a_ring_over_ways_that_are_no_forests(self):
        # All of 0 to 2 are lesser than 5, though 2 is not the forest's.
        web = (4, ((0, 1, 1), (1, 2, 2), (0, 2, 3), (2, 3, 1), (0, 3, 9), (1, 3, 8)))
        cuts = [("cut", [0]), ("cut", [0, 1]), ("ring", [0, 1]), ("cut", [3])]
        for ring in ([2, 3], [0, 1, 3]):
            self.assertIs(is_shown(web, [0, 1, 3], cuts + [("ring", ring), ("ring", [1, 3])]), True)
        self.assertIs(is_shown(web, [0, 1, 3], cuts + [("ring", [0, 5]), ("ring", [0, 2, 3])]), True)
        self.assertIs(is_shown(web, [0, 1, 3], cuts + [("ring", [0, 5]), ("ring", [0, 4])]), False)

    def test_every_list_of_houses_and_of_ways_as_a_reason(self):
        for web in [RING, EIGHT] + small_webs(0)[::9] + small_webs(20)[64:]:
            forest, reasons = forest_of(web), reasons_of(web)
            cuts = [("cut", houses) for houses in lists_of(web[0])]
            rings = [("ring", ways) for ways in lists_of(len(web[1]))]
            for place in range(len(reasons)):
                for reason in cuts + rings:
                    self.check(web, forest, with_reason(reasons, place, reason))

    def test_near_lists(self):
        for web in (TOWN, RING, TREE, TWO_PARTS, EIGHT):
            forest, reasons = forest_of(web), reasons_of(web)
            for place, (word, numbers) in enumerate(reasons):
                many = web[0] if word == "cut" else len(web[1])
                for near in changed(numbers, many):
                    told = self.check(web, forest, with_reason(reasons, place, (word, near)))
                    if sorted(set(near)) != near or set(near) - set(range(many)):
                        self.assertIs(told, False)

    def test_other_words(self):
        reasons = reasons_of(TOWN)
        for place, (word, numbers) in enumerate(reasons):
            for other in ("", "Cut", "cuts", " cut", "cut ", "Ring", "rings", "RING", "c", "r", "cut\n", "way"):
                self.assertIs(is_shown(TOWN, [1, 2, 3, 5], with_reason(reasons, place, (other, numbers))), False)
            swapped = "ring" if word == "cut" else "cut"
            self.assertIs(is_shown(TOWN, [1, 2, 3, 5], with_reason(reasons, place, (swapped, numbers))), False)

    def test_the_right_word_with_the_other_place(self):
        # Each reason is right by itself, but a ring stands for a way of the list, or a cut for one that isn't there.
        self.assertIs(is_shown(TOWN, [0, 1, 2, 3, 5], reasons_of(TOWN)), False)
        self.assertIs(is_shown(TOWN, [2, 3, 5], reasons_of(TOWN)), False)

    def test_two_exchanged(self):
        for web in (TOWN, RING, TREE, TWO_PARTS, EIGHT):
            forest, reasons = forest_of(web), reasons_of(web)
            for one in range(len(reasons)):
                for other in range(one):
                    moved = with_reason(reasons, one, reasons[other])
                    self.check(web, forest, with_reason(moved, other, reasons[one]))
        self.assertIs(is_shown(TREE, forest_of(TREE), reasons_of(TREE)[::-1]), False)

    def test_one_left_out_or_one_more(self):
        for web in (TOWN, RING, TREE, TWO_PARTS):
            forest, reasons = forest_of(web), reasons_of(web)
            for place in range(len(reasons)):
                self.assertIs(is_shown(web, forest, reasons[:place] + reasons[place + 1:]), False)
                self.assertIs(is_shown(web, forest, reasons[:place] + [reasons[place]] + reasons[place:]), False)
            for more in (reasons[0], ("cut", []), ("ring", []), ("", [])):
                self.assertIs(is_shown(web, forest, reasons + [more]), False)
                self.assertIs(is_shown(web, forest, [more] + reasons), False)
            self.assertIs(is_shown(web, forest, []), False)
        self.assertIs(is_shown((3, ()), [], [("cut", [])]), False)

    def test_empty_lists(self):
        self.assertIs(is_shown((1, ()), [], []), True)
        self.assertIs(is_shown((12, ()), [], []), True)
        self.assertIs(is_shown((2, ((0, 1, 1),)), [], []), False)
        self.assertIs(is_shown((2, ((0, 1, 1),)), [0], []), False)
        self.assertIs(is_shown((2, ((0, 1, 1),)), [0], [("cut", [])]), False)
        self.assertIs(is_shown((2, ((0, 1, 1),)), [], [("ring", [])]), False)
        self.assertIs(is_shown((2, ((0, 1, 1),)), [0], [("cut", [0, 1])]), False)

    def test_a_ring_with_a_ring_apart(self):
        web = (7, ((0, 1, 1), (1, 2, 1), (0, 2, 2), (3, 4, 0), (4, 5, 0), (3, 5, 1), (5, 6, 0)))
        forest, reasons = forest_of(web), reasons_of(web)
        self.assertEqual(forest, [0, 1, 3, 4, 6])
        self.assertIs(is_shown(web, forest, with_reason(reasons, 2, ("ring", [0, 1]))), True)
        self.assertIs(is_shown(web, forest, with_reason(reasons, 2, ("ring", [0, 1, 3, 4, 5]))), False)
        self.assertIs(is_shown(web, forest, with_reason(reasons, 2, ("ring", [3, 4, 5]))), False)
        self.assertIs(is_shown(web, forest, with_reason(reasons, 2, ("ring", [0, 1, 6]))), False)
        eight = forest_of(EIGHT), reasons_of(EIGHT)
        self.assertIs(is_shown(EIGHT, eight[0], with_reason(eight[1], 5, ("ring", [0, 1, 2, 3, 4]))), False)

    def test_another_list_in_the_forests_place(self):
        for web in [TOWN, RING, EIGHT] + small_webs(10)[::5]:
            forest, reasons = forest_of(web), reasons_of(web)
            for ways in lists_of(len(web[1])):
                self.assertIs(is_shown(web, ways, reasons), ways == forest)
            for near in changed(forest, len(web[1])):
                self.assertIs(is_shown(web, near, reasons), near == forest)

    def test_no_reasons_show_another_forest(self):
        for web in [RING, EIGHT] + small_webs(30):
            cuts = {least: ("cut", houses) for houses, least in self.least_outs(web)}
            rings = {greatest: ("ring", rest) for rest, greatest in self.rings(web)}
            for ways in lists_of(len(web[1])):
                found = [rings.get(number, ("ring", [])) for number in range(len(web[1]))]
                for number in ways:
                    found[number] = cuts.get(number, ("cut", [0]))
                self.assertIs(is_shown(web, ways, found), ways == forest_of(web))

    def least_outs(self, web):
        found = [(houses, outs(web, houses)) for houses in lists_of(web[0])]
        return [(houses, min(out, key=lambda number: rank(web, number))) for houses, out in found if out]

    def rings(self, web):
        found = [(ways, number) for ways in lists_of(len(web[1])) for number in range(len(web[1]))]
        return [(ways, number) for ways, number in found if is_right(web, number, ("ring", ways))]

    def test_odd_things_show_nothing(self):
        forest, reasons = forest_of(TOWN), reasons_of(TOWN)
        for odd in ODD_THINGS:
            self.assertIs(is_shown(TOWN, odd, reasons), False)
            self.assertIs(is_shown(TOWN, forest[:3] + [odd], reasons), False)
            for reason in (odd, ("cut", odd), ("cut", [odd]), (odd, [0])):
                with self.subTest(reason=reason):
                    self.assertIs(is_shown(TOWN, forest, with_reason(reasons, 1, reason)), False)
            for reason in (odd, ("ring", odd), ("ring", [1, odd]), (odd, [1, 2]), ("ring", (1, 2))):
                with self.subTest(reason=reason):
                    self.assertIs(is_shown(TOWN, forest, with_reason(reasons, 0, reason)), False)
        for reason in (["cut", [0]], ("cut", (0,)), ("cut", [0], []), ("cut",), ()):
            self.assertIs(is_shown(TOWN, forest, with_reason(reasons, 1, reason)), False)

    def test_what_is_handed_in_stays(self):
        for forest in ([1, 2, 3, 5], [5, 3, 2, 1], [99, -1]):
            for wrong in (("cut", [0]), ("ring", [5, 2]), ("ring", [2, 5, 99])):
                reasons = with_reason(reasons_of(TOWN), 4, wrong)
                kept = (list(forest), [(word, list(numbers)) for word, numbers in reasons])
                is_shown(TOWN, forest, reasons)
                self.assertEqual((forest, reasons), kept)
        reasons = reasons_of(TOWN)
        is_shown(TOWN, forest_of(TOWN), reasons)
        self.assertEqual(reasons, reasons_of(TOWN))

    def test_asked_again(self):
        reasons = reasons_of(TOWN)
        self.assertIs(is_shown(TOWN, [1, 2, 3, 5], reasons), True)
        reasons[0][1].append(99)
        self.assertIs(is_shown(TOWN, [1, 2, 3, 5], reasons), False)
        reasons[0][1].pop()
        self.assertIs(is_shown(TOWN, [1, 2, 3, 5], reasons), True)


class Forests(unittest.TestCase):
    def test_the_lots_are_those_of_all_ways(self):
        for web in some_webs(100):
            told = forest_of(web)
            lots = lots_by_walks(web, range(len(web[1])))
            self.assertEqual(lots_by_walks(web, told), lots)
            self.assertEqual(len(told), web[0] - len(lots))


if __name__ == "__main__":
    unittest.main()
