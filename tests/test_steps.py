import random
import unittest

from lotjoin.errors import NoStep
from lotjoin.forest import forest_of
from lotjoin.steps import stand_of, step_of
from reckon import goes_round, greedy, lists_of, outs, rank, rises
from refusals import RefusesNoWeb
from samples import FULL, ODD_THINGS, TOWN, WEBS, small_webs, some_webs

ASKS = (stand_of, step_of)

# 0 1 2 and 2 3 4 are rings that share a house, 5 hangs on 4 by one way, 6 is alone.
KNOT = (7, ((0, 1, 1), (1, 2, 2), (0, 2, 3), (2, 3, 1), (3, 4, 1), (2, 4, 1), (4, 5, 0)))
# Two rings apart.
PAIR = (6, ((0, 1, 1), (1, 2, 2), (0, 2, 3), (3, 4, 1), (4, 5, 2), (3, 5, 3)))
DIAMOND = (4, ((0, 1, 4), (1, 2, 1), (2, 3, 3), (0, 3, 2), (1, 3, 2)))

# Of KNOT: steps that can be done, and one behind them that is none or can't be done.
REFUSED = (
    # Another word.
    ([], ("", [0])),
    ([], ("cuts", [0])),
    ([], ("Cut", [0])),
    ([], ("RING", [0, 1, 2])),
    ([], ("ring ", [0, 1, 2])),
    ([], ("put", [])),
    # Lists that don't rise.
    ([], ("cut", [1, 0])),
    ([], ("cut", [0, 0])),
    ([], ("cut", [0, 2, 1])),
    ([], ("ring", [2, 1, 0])),
    ([], ("ring", [0, 1, 1, 2])),
    ([], ("ring", [0, 2, 1])),
    # Numbers that are no houses, no ways.
    ([], ("cut", [-1, 0])),
    ([], ("cut", [-1])),
    ([], ("cut", [0, 7])),
    ([], ("cut", [0, 10 ** 30])),
    ([], ("cut", [-(10 ** 30), 0])),
    ([], ("ring", [-1, 0, 1, 2])),
    ([], ("ring", [0, 1, 2, 7])),
    ([], ("ring", [-7, 1, 2])),
    ([], ("ring", [0, 1, 10 ** 30])),
    # No way leads out.
    ([], ("cut", [])),
    ([], ("cut", [6])),
    ([], ("cut", [0, 1, 2, 3, 4, 5])),
    ([], ("cut", [0, 1, 2, 3, 4, 5, 6])),
    # No ring.
    ([], ("ring", [])),
    ([], ("ring", [0])),
    ([], ("ring", [0, 1])),
    ([], ("ring", [0, 1, 3])),
    ([], ("ring", [4, 5, 6])),
    ([], ("ring", [0, 1, 2, 6])),
    ([], ("ring", [0, 1, 2, 3, 4, 5])),
    ([], ("ring", [0, 1, 2, 3, 4, 5, 6])),
    # A way out is put in already.
    ([("cut", [0])], ("cut", [0])),
    ([("cut", [0])], ("cut", [0, 2])),
    ([("cut", [0])], ("cut", [1])),
    ([("cut", [5])], ("cut", [4])),
    ([("cut", [5]), ("cut", [0])], ("cut", [0, 5])),
    # All ways out are left out, or put in.
    ([("cut", [0]), ("cut", [0, 1]), ("ring", [0, 1, 2])], ("cut", [0])),
    ([("cut", [0]), ("cut", [0, 1]), ("ring", [0, 1, 2])], ("cut", [0, 1])),
    # One of the ring is left out already.
    ([("ring", [0, 1, 2])], ("ring", [0, 1, 2])),
    ([("cut", [5]), ("ring", [3, 4, 5]), ("ring", [0, 1, 2])], ("ring", [3, 4, 5])),
    # Steps that are none behind some that can be done.
    ([("ring", [0, 1, 2]), ("cut", [5])], ("way", [0])),
    ([("ring", [0, 1, 2]), ("cut", [5])], ("cut", [1, 0])),
    ([("ring", [0, 1, 2]), ("cut", [5])], ("cut", [7])),
    ([("ring", [0, 1, 2]), ("cut", [5])], ("ring", [3, 4, 7])),
)


def stand_behind(web, stand, step):
    """The stand behind one more step by the words of the document, or None."""
    put_in, left_out = stand
    word, numbers = step
    if word == "cut" and rises(numbers, web[0]):
        out = outs(web, numbers)
        chosen = sorted(set(out) - set(left_out), key=lambda number: rank(web, number))
        if chosen and not set(out) & set(put_in):
            return (sorted(put_in + chosen[:1]), left_out)
    if word == "ring" and rises(numbers, len(web[1])) and goes_round(web, numbers):
        chosen = sorted(set(numbers) - set(put_in), key=lambda number: rank(web, number))
        if chosen and not set(numbers) & set(left_out):
            return (put_in, sorted(left_out + chosen[-1:]))
    return None


def all_steps(web):
    return [("cut", houses) for houses in lists_of(web[0])] + [("ring", ways) for ways in lists_of(len(web[1]))]


def copied(steps):
    return [(word, list(numbers)) for word, numbers in steps]


def random_steps(web, chance, steps):
    """All rings and cuts there are, drawn till every way is settled."""
    stand, done = ([], []), []
    while len(stand[0]) + len(stand[1]) < len(web[1]):
        step = chance.choice(steps)
        behind = stand_behind(web, stand, step)
        if behind:
            stand = behind
            done.append(step)
    return done


class StandOf(RefusesNoWeb, unittest.TestCase):
    asks = ASKS
    further = (([],), ([("cut", [0])],), ([("", [])],), ([("cut", [1, 0]), ("ring", [])],))

    def place_refused(self, ask, web, steps):
        with self.assertRaises(NoStep) as caught:
            ask(web, steps)
        self.assertIs(type(caught.exception.place), int)
        return caught.exception.place

    def test_no_steps(self):
        for web in WEBS:
            self.assertEqual(stand_of(web, []), ([], []))

    def test_a_cut_puts_in_the_least_way_out(self):
        self.assertEqual(stand_of(DIAMOND, [("cut", [0])]), ([3], []))
        self.assertEqual(stand_of(DIAMOND, [("cut", [1])]), ([1], []))
        self.assertEqual(stand_of(DIAMOND, [("cut", [0, 3])]), ([4], []))
        self.assertEqual(stand_of(DIAMOND, [("cut", [1, 2])]), ([4], []))
        self.assertEqual(stand_of(DIAMOND, [("cut", [1, 2, 3])]), ([3], []))

    def test_a_ring_leaves_out_its_greatest(self):
        self.assertEqual(stand_of(DIAMOND, [("ring", [0, 3, 4])]), ([], [0]))
        self.assertEqual(stand_of(DIAMOND, [("ring", [1, 2, 4])]), ([], [2]))
        self.assertEqual(stand_of(DIAMOND, [("ring", [0, 1, 2, 3])]), ([], [0]))

    def test_a_cut_of_houses_that_do_not_hang_together(self):
        self.assertEqual(stand_of(KNOT, [("cut", [0, 5])]), ([6], []))
        self.assertEqual(stand_of(KNOT, [("cut", [0, 6])]), ([0], []))
        self.assertEqual(stand_of(KNOT, [("cut", [0, 1, 2, 4])]), ([6], []))

    def test_a_cut_beside_ways_left_out(self):
        self.assertEqual(stand_of(DIAMOND, [("ring", [1, 2, 4]), ("cut", [2])]), ([1], [2]))
        web = (3, ((0, 1, 1), (1, 2, 1), (0, 2, 1)))
        self.assertEqual(stand_of(web, [("ring", [0, 1, 2]), ("cut", [2])]), ([2], [1]))
        self.assertEqual(stand_of(web, [("ring", [0, 1, 2]), ("cut", [0, 2])]), ([0], [1]))

    def test_a_ring_with_ways_put_in(self):
        steps = [("cut", [0]), ("cut", [0, 3]), ("ring", [0, 3, 4])]
        self.assertEqual(stand_of(DIAMOND, steps), ([3, 4], [0]))

    def test_both_lists_rise(self):
        steps = [("ring", [3, 4, 5]), ("cut", [5]), ("ring", [0, 1, 2]), ("cut", [3]), ("cut", [0])]
        self.assertEqual(stand_of(KNOT, steps), ([0, 3, 6], [2, 4]))

    def test_every_step_from_every_stand(self):
        for web in [DIAMOND, (3, ((1, 2, 0), (0, 2, 0), (0, 1, 0)))] + small_webs(12)[64:]:
            steps, seen, ahead = all_steps(web), {((), ())}, [[]]
            while ahead:
                done = ahead.pop()
                stand = stand_of(web, done)
                for step in steps:
                    behind = stand_behind(web, stand, step)
                    with self.subTest(web=web, steps=done + [step]):
                        if behind is None:
                            self.assertEqual(self.place_refused(stand_of, web, done + [step]), len(done))
                            continue
                        self.assertEqual(stand_of(web, done + [step]), behind)
                    known = tuple(map(tuple, behind))
                    if known not in seen:
                        seen.add(known)
                        ahead.append(done + [step])

    def test_in_any_order_the_forest_is_left(self):
        chance = random.Random(11)
        for web in [DIAMOND, KNOT, PAIR, TOWN] + small_webs(30)[::3]:
            steps = all_steps(web)
            for _ in range(5):
                done = random_steps(web, chance, steps)
                stand = stand_of(web, done)
                with self.subTest(web=web, steps=done):
                    self.assertEqual(stand[0], greedy(web))
                    self.assertEqual(sorted(stand[0] + stand[1]), list(range(len(web[1]))))
                    self.assertEqual(len(done), len(web[1]))

    def test_refused_with_the_place(self):
        for ask in ASKS:
            for done, step in REFUSED:
                with self.subTest(ask.__name__, done=done, step=step):
                    stand_of(KNOT, done)
                    self.assertEqual(self.place_refused(ask, KNOT, done + [step]), len(done))

    def test_the_first_refused_goes_first(self):
        for ask in ASKS:
            for done, step in REFUSED:
                for behind in (("cut", [5]), ("", []), ("ring", [99])):
                    steps = done + [step, behind, behind]
                    self.assertEqual(self.place_refused(ask, KNOT, steps), len(done))

    def test_odd_things_are_no_steps(self):
        for ask in ASKS:
            for odd in ODD_THINGS:
                for step in (odd, ("cut", odd), ("ring", odd), ("cut", [odd]), ("ring", [0, 1, odd]), (odd, [0])):
                    with self.subTest(ask.__name__, step=step):
                        self.assertEqual(self.place_refused(ask, KNOT, [("cut", [5]), step]), 1)
            self.assertEqual(self.place_refused(ask, KNOT, [("cut", (0,))]), 0)
            self.assertEqual(self.place_refused(ask, KNOT, [["cut", [0]]]), 0)
            self.assertEqual(self.place_refused(ask, KNOT, [("cut", [0], [])]), 0)

    def test_rings_apart_are_not_one(self):
        for ask in ASKS:
            self.assertEqual(self.place_refused(ask, PAIR, [("cut", [0]), ("ring", [0, 1, 2, 3, 4, 5])]), 1)

    def test_all_ways_of_a_ring_put_in_or_one_left_out(self):
        web = (3, ((0, 1, 1), (1, 2, 2), (0, 2, 3)))
        done = [("cut", [0]), ("cut", [2]), ("ring", [0, 1, 2])]
        self.assertEqual(stand_of(web, done), ([0, 1], [2]))
        for step in all_steps(web):
            self.assertEqual(self.place_refused(stand_of, web, done + [step]), 3)

    def test_no_house_or_way_left(self):
        for ask in ASKS:
            self.assertEqual(self.place_refused(ask, (1, ()), [("cut", [0])]), 0)
            self.assertEqual(self.place_refused(ask, (1, ()), [("cut", [])]), 0)
            self.assertEqual(self.place_refused(ask, (12, ()), [("ring", [])]), 0)

    def test_steps_stay_as_they_were(self):
        for ask in ASKS:
            for done, step in REFUSED:
                steps = copied(done)
                ask(KNOT, steps)
                self.assertEqual(steps, done)
                steps = copied(done + [step])
                self.place_refused(ask, KNOT, steps)
                self.assertEqual(steps, done + [step])

    def test_a_refusal_changes_nothing(self):
        done = [("cut", [0])]
        right = stand_of(KNOT, done)
        self.place_refused(stand_of, KNOT, done + done)
        self.assertEqual(stand_of(KNOT, done), right)

    def test_kinds(self):
        told = stand_of(KNOT, [("cut", [0]), ("ring", [3, 4, 5])])
        self.assertIs(type(told), tuple)
        self.assertEqual([type(one) for one in told], [list, list])

    def test_the_told_lists_are_the_askers_own(self):
        for steps in ([], [("cut", [0]), ("ring", [3, 4, 5])]):
            told = stand_of(KNOT, steps)
            kept = (list(told[0]), list(told[1]))
            told[0].append(99)
            told[1].append(98)
            self.assertEqual(stand_of(KNOT, steps), kept)


class StepOf(unittest.TestCase):
    def check_step(self, web, stand, step):
        self.assertIs(type(step), tuple)
        self.assertEqual(len(step), 2)
        self.assertIs(type(step[0]), str)
        self.assertIs(type(step[1]), list)
        behind = stand_behind(web, stand, step)
        self.assertIsNotNone(behind)
        return behind

    def test_till_all_ways_are_settled(self):
        for web in list(WEBS) + [DIAMOND, KNOT, PAIR] + small_webs(60) + some_webs(80):
            steps, stand = [], ([], [])
            with self.subTest(web=web):
                for _ in web[1]:
                    step = step_of(web, steps)
                    stand = self.check_step(web, stand, step)
                    steps.append(step)
                    self.assertEqual(stand_of(web, steps), stand)
                self.assertIsNone(step_of(web, steps))
                self.assertEqual(stand[0], greedy(web))
                self.assertEqual(stand[0], forest_of(web))

    def test_behind_steps_of_any_order(self):
        chance = random.Random(12)
        for web in [DIAMOND, KNOT, PAIR, TOWN] + small_webs(30)[::3]:
            steps = all_steps(web)
            done = random_steps(web, chance, steps)
            for count in range(len(done)):
                with self.subTest(web=web, steps=done[:count]):
                    self.check_step(web, stand_of(web, done[:count]), step_of(web, done[:count]))
            self.assertIsNone(step_of(web, done))

    def test_a_ring_where_nothing_else_is_left(self):
        web = (3, ((0, 1, 1), (1, 2, 2), (0, 2, 3)))
        self.assertEqual(step_of(web, [("cut", [0]), ("cut", [2])]), ("ring", [0, 1, 2]))

    def test_no_ways(self):
        for many in range(1, 13):
            self.assertIsNone(step_of((many, ()), []))

    def test_the_told_list_is_the_askers_own(self):
        for steps in ([], [("cut", [0]), ("ring", [3, 4, 5])], [("cut", [0]), ("cut", [0, 1])]):
            stand = stand_of(KNOT, steps)
            for _ in range(3):
                told = step_of(KNOT, steps)
                self.check_step(KNOT, stand, told)
                told[1].append(99)

    def test_what_is_told_stays_when_steps_go_on(self):
        steps = [("cut", [0])]
        told = step_of(KNOT, steps)
        kept = (told[0], list(told[1]))
        steps.append(told)
        self.assertIsNot(step_of(KNOT, steps)[1], told[1])
        self.assertEqual(told, kept)

    def test_full_web(self):
        steps = []
        for _ in FULL[1]:
            steps.append(step_of(FULL, steps))
        self.assertEqual(stand_of(FULL, steps)[0], forest_of(FULL))


if __name__ == "__main__":
    unittest.main()
