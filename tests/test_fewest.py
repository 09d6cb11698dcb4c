import itertools
import random
import unittest

from lotjoin.errors import TooMany
from lotjoin.fewest import fewest, shows_few
from lotjoin.wakings import letters_of, stand_behind
from reckon import SlowNight, greedy, lots_by_walks, rises
from refusals import RefusesNoWeb
from samples import small_webs

NONE = ((), (), ())
TRIO = (3, ((0, 1, 1), (1, 2, 2), (0, 2, 3)))
PAIRS = tuple(itertools.combinations(range(5), 2))
FIVE = (5, tuple((one, other, (one * 7 + other * 3) % 5) for one, other in PAIRS[1:9]))
APART = (5, ((0, 4, 2), (1, 3, 0), (1, 2, 0), (2, 3, 7)))
LONE = ((1, ()), (2, ()), (5, ()))


def at_stand(web, stand):
    night = SlowNight(web)
    night.put_in, night.known, night.whole = list(stand[0]), set(stand[1]), set(stand[2])
    return night


def step_by_words(web, stand, house):
    night = at_stand(web, stand)
    letters = night.wake(house)[1]
    if night.under():
        letters += night.end(0)[1]
    return letters, tuple(map(tuple, night.stand()))


def fewest_of_all_rows(web, stand=NONE):
    """Every row is gone through, with nothing kept of those before."""
    rest = [house for house in range(web[0]) if house not in stand[2]]
    if not rest:
        return 0
    steps = [step_by_words(web, stand, house) for house in rest]
    return min(letters + fewest_of_all_rows(web, behind) for letters, behind in steps)


def is_stand_by_words(web, stand):
    put_in, known, whole = stand
    if not (rises(put_in, len(web[1])) and rises(known, len(web[1])) and rises(whole, web[0])):
        return False
    lots = lots_by_walks(web, put_in)
    if not set(put_in) <= set(greedy(web)) or set(known) & set(put_in):
        return False
    if not all(any(set(web[1][number][:2]) <= set(lot) for lot in lots) for number in known):
        return False
    done = [lot for lot in lots_by_walks(web, range(len(web[1]))) if lot in lots and set(lot) <= set(whole)]
    return sorted(house for lot in done for house in lot) == list(whole)


def shows_by_words(web, number, floors):
    if not all(is_stand_by_words(web, stand) for stand, _ in floors):
        return False
    if not any(stand == NONE and n >= number for stand, n in floors):
        return False
    for stand, n in floors:
        if n <= 0:
            continue
        if len(stand[2]) == web[0]:
            return False
        for house in range(web[0]):
            letters, behind = step_by_words(web, stand, house)
            if n > letters and not any(other == behind and m >= n - letters for other, m in floors):
                return False
    return True


def at_once(houses):
    return [event for number, house in enumerate(houses) for event in (("wake", house), ("end", number))]


def bent(web, floors, chance):
    """The floors with something in them put otherwise."""
    floors = list(floors)
    place = chance.randrange(len(floors))
    stand, n = floors[place]
    kind = chance.randrange(6)
    if kind == 0:
        floors.pop(place)
    elif kind == 1:
        floors[place] = (stand, n + chance.choice((-3, -2, -1, 1, 2, 3)))
    elif kind == 2:
        floors.insert(place, chance.choice(floors))
    elif kind == 3:
        floors.append((chance.choice(floors)[0], chance.randint(-2, 40)))
    else:
        parts = list(stand)
        which = chance.randrange(3)
        part = list(parts[which])
        if part and chance.random() < 0.5:
            part.pop(chance.randrange(len(part)))
        else:
            part.insert(chance.randint(0, len(part)), chance.randint(-1, max(web[0], len(web[1]))))
        parts[which] = tuple(part)
        stand = tuple(parts)
        if kind == 4:
            floors[place] = (stand, n)
        else:
            floors.append((stand, chance.choice((-1, 0, n))))
    return floors


class Fewest(RefusesNoWeb, unittest.TestCase):
    asks = (fewest,)

    def check(self, web):
        told = fewest(web)
        self.assertIs(type(told), tuple)
        letters, houses, floors = told
        self.assertEqual((type(letters), type(houses), type(floors)), (int, list, list))
        self.assertEqual({type(house) for house in houses}, {int})
        for floor in floors:
            stand, n = floor
            self.assertEqual((type(floor), type(stand), len(stand), type(n)), (tuple, tuple, 3, int))
            self.assertEqual([type(part) for part in stand], [tuple] * 3)
        # Wakings of a lot that knows begin searches that have ended, so none may stand in the row.
        events = at_once(houses)
        self.assertEqual(sum(count for _, count in letters_of(web, events)), letters)
        self.assertEqual(stand_behind(web, events)[2], list(range(web[0])))
        self.assertTrue(shows_by_words(web, letters, floors))
        return told

    def test_by_hand(self):
        self.assertEqual(self.check((2, ((0, 1, 5),)))[0], 2 + 2 + 2 + 1)
        self.assertEqual(self.check((2, ()))[0], 0)
        # Two houses alone ask over two ways each and join; then all three ask over the one left from both its ends.
        self.assertEqual(self.check(TRIO)[0], (4 + 2) + (4 + 2) + (4 + 4 + 2))

    def test_one_house(self):
        letters, houses, _ = self.check((1, ()))
        self.assertEqual((letters, houses), (0, [0]))

    def test_no_ways(self):
        for many in range(1, 6):
            letters, houses, _ = self.check((many, ()))
            self.assertEqual((letters, sorted(houses)), (0, list(range(many))))

    def test_against_all_rows(self):
        for web in small_webs(60)[::2] + [TRIO, APART]:
            with self.subTest(web=web):
                self.assertEqual(self.check(web)[0], fewest_of_all_rows(web))

    def test_five_houses_and_eight_ways(self):
        self.assertEqual(self.check(FIVE)[0], fewest_of_all_rows(FIVE))

    def test_it_matters_who_wakes(self):
        star = (5, tuple((0, other, other) for other in range(1, 5)))
        told = self.check(star)
        events = at_once([0, 0, 0, 0, 0])
        self.assertLess(told[0], sum(count for _, count in letters_of(star, events)))
        self.assertEqual(told[0], fewest_of_all_rows(star))

    def test_several_parts(self):
        self.assertEqual(self.check(APART)[0], fewest_of_all_rows(APART))
        # The pair 0 4 and the ring 1 2 3 ask nothing of one another.
        self.assertEqual(fewest(APART)[0], 7 + fewest((3, ((0, 2, 0), (0, 1, 0), (1, 2, 7))))[0])

    def test_too_many(self):
        for web in ((6, ()), (12, ()), (6, ((0, 1, 1),)), (5, tuple((*ends, 1) for ends in PAIRS[:9])),
                    (5, tuple((*ends, 1) for ends in PAIRS)), (6, tuple((*ends, 1) for ends in PAIRS))):
            with self.subTest(web=web), self.assertRaises(TooMany):
                fewest(web)
        self.check((5, ()))
        self.check((5, tuple((*ends, 1) for ends in PAIRS[:8])))

    def test_the_told_lists_are_the_askers_own(self):
        for web in (TRIO, (1, ()), APART):
            letters, houses, floors = fewest(web)
            kept = (letters, list(houses), list(floors))
            houses.append(99)
            floors.clear()
            self.assertEqual(fewest(web), kept)


class ShowsFew(RefusesNoWeb, unittest.TestCase):
    asks = (shows_few,)
    further = ((0, []), (0, [(NONE, 0)]), (5, [(((9,), (), ()), 5)]), (None, None))

    def both(self, web, number, floors):
        told = shows_few(web, number, floors)
        self.assertIs(told, shows_by_words(web, number, floors))
        return told

    def test_what_is_told_and_lesser_numbers(self):
        for web in small_webs(40)[::3] + [TRIO, FIVE, APART] + list(LONE):
            letters, _, floors = fewest(web)
            for number in (letters, letters - 1, 0, -1, -(10 ** 30)):
                self.assertIs(shows_few(web, number, floors), True)
            for number in (letters + 1, letters + 2, 10 ** 30):
                self.assertIs(shows_few(web, number, floors), False)

    def test_a_floor_left_out(self):
        for web in (TRIO, FIVE, APART, (2, ((0, 1, 5),))):
            letters, _, floors = fewest(web)
            needed = 0
            for place in range(len(floors)):
                shown = self.both(web, letters, floors[:place] + floors[place + 1:])
                needed += not shown
            self.assertGreater(needed, 1)

    def test_a_number_raised(self):
        for web in (TRIO, FIVE, APART, (2, ((0, 1, 5),))):
            letters, _, floors = fewest(web)
            for place, (stand, n) in enumerate(floors):
                for more in (1, 100):
                    raised = floors[:place] + [(stand, n + more)] + floors[place + 1:]
                    self.assertIs(self.both(web, letters, raised), False)
                    if stand != NONE:
                        self.assertIs(self.both(web, letters, floors + [(stand, n + more)]), False)

    def test_a_number_lowered(self):
        for web in (TRIO, FIVE, APART):
            letters, _, floors = fewest(web)
            for place, (stand, n) in enumerate(floors):
                lowered = floors[:place] + [(stand, n - 1)] + floors[place + 1:]
                self.both(web, letters, lowered)
                self.assertIs(self.both(web, letters, floors + [(stand, n - 1), (stand, -5)]), True)

    def test_no_floors(self):
        for number in (-(10 ** 30), -1, 0, 1):
            self.assertIs(shows_few(TRIO, number, []), False)
            self.assertIs(shows_few((1, ()), number, []), False)

    def test_numbers_at_nought_and_below(self):
        for web in (TRIO, (1, ()), (5, ())):
            self.assertIs(shows_few(web, 0, [(NONE, 0)]), True)
            self.assertIs(shows_few(web, -1, [(NONE, 0)]), True)
            self.assertIs(shows_few(web, 0, [(NONE, -1)]), False)
            self.assertIs(shows_few(web, -1, [(NONE, -1)]), True)
            self.assertIs(shows_few(web, -2, [(NONE, -1), (NONE, -9)]), True)
            self.assertIs(shows_few(web, 10 ** 30, [(NONE, 10 ** 30)]), False)

    def test_the_letters_of_the_first_step(self):
        # Any first waking and its end have 6 letters.
        self.assertIs(shows_few(TRIO, 6, [(NONE, 6)]), True)
        self.assertIs(shows_few(TRIO, 7, [(NONE, 7)]), False)
        one, other = ((0,), (), ()), ((1,), (), ())
        self.assertIs(shows_few(TRIO, 7, [(NONE, 7), (one, 1), (other, 1)]), True)
        self.assertIs(shows_few(TRIO, 7, [(NONE, 7), (one, 1), (other, 0)]), False)
        self.assertIs(shows_few(TRIO, 7, [(NONE, 7), (one, 1)]), False)

    def test_where_all_know_nothing_above_nought(self):
        whole = ((0, 1), (2,), (0, 1, 2))
        self.assertIs(shows_few(TRIO, 6, [(NONE, 6), (whole, 0)]), True)
        self.assertIs(shows_few(TRIO, 6, [(NONE, 6), (whole, 1)]), False)
        self.assertIs(shows_few((1, ()), 0, [(NONE, 0), (((), (), (0,)), 0)]), True)
        self.assertIs(shows_few((1, ()), 0, [(NONE, 0), (((), (), (0,)), 1)]), False)

    def test_a_lot_that_knows_bears_itself(self):
        # In APART the pair 0 4 knows; its wakings leave the stand as it is.
        floors = [(NONE, 4), (((0,), (), (0, 4)), 5)]
        self.assertIs(self.both(APART, 4, floors), True)
        self.assertIs(self.both(APART, 4, floors + [(((0,), (), (0, 4)), 9)]), False)

    def test_stands_that_no_night_comes_to(self):
        # All put in and nothing known; a way known that nobody asked over.
        for stand in (((0, 1), (), ()), ((0, 1), (2,), ())):
            self.assertIs(self.both(TRIO, 6, [(NONE, 6), (stand, 4)]), True)
        self.assertIs(self.both(TRIO, 6, [(NONE, 6), (((0, 1), (), (0, 1, 2)), 0)]), True)

    def test_what_is_no_stand(self):
        # Of APART: the forest is 0 1 2, the pair 0 4 and the lot 1 2 3.
        no_stands = (
            ((1, 0), (), ()),
            ((0, 0), (), ()),
            ((0, 3), (), ()),
            ((3,), (), ()),
            ((4,), (), ()),
            ((-1,), (), ()),
            ((10 ** 30,), (), ()),
            ((), (3,), ()),
            ((1,), (3,), ()),
            ((1, 2), (3, 3), ()),
            ((1, 2), (1, 3), ()),
            ((1, 2), (1,), ()),
            ((1, 2), (4,), ()),
            ((1, 2), (-1,), ()),
            ((), (0,), ()),
            ((0,), (0,), ()),
            ((), (), (0,)),
            ((0,), (), (0,)),
            ((0,), (), (4,)),
            ((0,), (), (4, 0)),
            ((0,), (), (0, 0, 4)),
            ((0,), (), (0, 1, 4)),
            ((), (), (0, 4)),
            ((1,), (), (1, 3)),
            ((1,), (), (1, 2, 3)),
            ((1, 2), (), (1, 2)),
            ((1, 2), (), (1, 2, 3, 5)),
            ((1, 2), (), (-1, 1, 2, 3)),
            ((1, 2), (), (0, 1, 2, 3, 4)),
        )
        good = [(NONE, 0)]
        for stand in no_stands:
            for n in (0, -1, 1, 5):
                for floors in (good + [(stand, n)], [(stand, n)] + good):
                    with self.subTest(floors=floors):
                        self.assertFalse(is_stand_by_words(APART, stand))
                        self.assertIs(shows_few(APART, 0, floors), False)
                        self.assertIs(shows_few(APART, -5, floors), False)
        for stand in (((1, 2), (3,), ()), ((0,), (), (0, 4)), ((1, 2), (), (1, 2, 3)), ((0, 1, 2), (3,), (0, 4))):
            self.assertIs(shows_few(APART, 0, good + [(stand, 0)]), True)

    def test_what_has_another_form_is_no_stand(self):
        for thing in ((), ((), ()), ((), (), (), ()), ((), (), []), ([], (), ()), ((True,), (), ()), (("0",), (), ())):
            self.assertIs(shows_few(APART, 0, [(NONE, 0), (thing, 0)]), False)

    def test_bent_floors_against_the_words(self):
        chance = random.Random(20)
        shown = [0, 0]
        for web in small_webs(30)[1::4] + [TRIO, APART, FIVE]:
            letters, _, told = fewest(web)
            for _ in range(40):
                floors = list(told)
                for _ in range(chance.randint(1, 3)):
                    floors = bent(web, floors, chance) or [(NONE, 0)]
                number = letters + chance.choice((0, 0, -1, -4, 1))
                with self.subTest(web=web, number=number, floors=floors):
                    shown[self.both(web, number, floors)] += 1
        self.assertGreater(min(shown), 100)

    def test_order_and_repeats_do_not_matter(self):
        for web in (TRIO, FIVE, APART):
            letters, _, floors = fewest(web)
            for turned in (floors[::-1], floors + floors, sorted(floors)):
                self.assertIs(shows_few(web, letters, turned), True)

    def test_floors_of_another_web(self):
        cheap = (3, ((0, 1, 3), (1, 2, 2), (0, 2, 1)))
        letters, _, floors = fewest(TRIO)
        self.assertIs(self.both(cheap, letters, floors), False)

    def test_too_many_whatever_the_floors(self):
        for web in ((6, ()), (5, tuple((*ends, 1) for ends in PAIRS[:9]))):
            for floors in ([], [(NONE, 0)], [(((9, 9), (), ()), 1)]):
                for number in (-1, 0, 10 ** 30):
                    with self.assertRaises(TooMany):
                        shows_few(web, number, floors)

    def test_the_floors_stay_as_they_were(self):
        letters, _, floors = fewest(TRIO)
        kept = list(floors)
        shows_few(TRIO, letters, floors)
        shows_few(TRIO, letters + 1, floors)
        self.assertEqual(floors, kept)


if __name__ == "__main__":
    unittest.main()
