import random
import unittest

from lotjoin.errors import NoHouse, NoStep
from lotjoin.forest import forest_of
from lotjoin.wakings import Night, letters_of, stand_behind
from reckon import SlowNight, greedy, slow_night
from refusals import RefusesNoWeb
from samples import FULL, ODD_THINGS, TOWN, WEBS, small_webs, some_webs

ASKS = (letters_of, stand_behind)
TRIO = (3, ((0, 1, 1), (1, 2, 2), (0, 2, 3)))
# Two lots by all ways: a ring with a way across it, and a pair.
PLACE = (6, ((2, 3, 9), (0, 1, 1), (1, 2, 4), (0, 3, 2), (0, 2, 7), (4, 5, 3)))

# What is no event behind ("wake", 0), ("wake", 1), ("end", 1) of TRIO.
NO_EVENTS = (
    ("", 0),
    ("woke", 0),
    ("Wake", 0),
    ("wake ", 0),
    ("ends", 0),
    ("end", 1),
    ("end", 2),
    ("end", -1),
    ("end", 10 ** 30),
    ("end", -(10 ** 30)),
    ("end", False),
    ("end", True),
    ("end", None),
    ("end", "0"),
    ("end", [0]),
    ("end", (0,)),
    ("wake", 3),
    ("wake", -1),
    ("wake", 10 ** 30),
    ("wake", True),
    ("wake", False),
    ("wake", "0"),
    ("wake", [0]),
    ("wake", ()),
    ("wake", None),
    ("wake",),
    ("wake", 0, 0),
    ["wake", 0],
    (0, "wake"),
)


def next_event(night, web, chance):
    """Any event that can be told, wakings and ends alike often."""
    under = night.under()
    if under and chance.random() < 0.5:
        return ("end", chance.choice(under))
    return ("wake", chance.randrange(web[0]))


def random_events(web, chance, count):
    night, events = SlowNight(web), []
    for _ in range(count):
        events.append(next_event(night, web, chance))
        night.tell(events[-1])
    return events


def events_till_all_know(web, chance):
    night, events = SlowNight(web), []
    while len(night.whole) < web[0]:
        events.append(next_event(night, web, chance))
        night.tell(events[-1])
    return events


class ByHand(unittest.TestCase):
    def check(self, web, rows, stand):
        """rows: an event, the way put in or None, the letters."""
        events = [event for event, _, _ in rows]
        self.assertEqual(letters_of(web, events), [(way, letters) for _, way, letters in rows])
        self.assertEqual(stand_behind(web, events), stand)

    def test_none(self):
        for web in WEBS:
            self.check(web, [], ([], [], []))

    def test_one_house(self):
        self.check((1, ()), [(("wake", 0), None, 0)], ([], [], []))
        rows = [(("wake", 0), None, 0), (("end", 0), None, 0), (("wake", 0), None, 0)]
        self.check((1, ()), rows, ([], [], [0]))

    def test_two_houses(self):
        rows = [
            (("wake", 1), None, 2),
            (("end", 0), 0, 2),
            (("wake", 1), None, 2),
            (("end", 1), None, 1),
        ]
        self.check((2, ((0, 1, 5),)), rows, ([0], [], [0, 1]))

    def test_three_one_behind_the_other(self):
        rows = [
            (("wake", 0), None, 4),
            (("end", 0), 0, 1 + 1),
            (("wake", 1), None, 2 + 2 + 2),
            (("end", 1), 1, 1 + 1),
            # Way 2 is asked over from both its ends, and known then.
            (("wake", 2), None, 4 + 4),
            (("end", 2), None, 2),
        ]
        self.check(TRIO, rows, ([0, 1], [2], [0, 1, 2]))

    def test_known_ways_are_not_asked_over_again(self):
        rows = [
            (("wake", 0), None, 4),
            (("end", 0), 0, 2),
            (("wake", 2), None, 4),
            (("end", 1), 1, 2),
            (("wake", 2), None, 4 + 4),
            (("wake", 1), None, 4),
            (("wake", 0), None, 4),
        ]
        self.check(TRIO, rows, ([0, 1], [2], []))

    def test_ways_are_known_from_the_waking_on(self):
        self.check(TRIO, [(("wake", 0), None, 4)], ([], [], []))
        joined = [(("wake", 0), None, 4), (("end", 0), 0, 2), (("wake", 2), None, 4), (("end", 1), 1, 2)]
        self.check(TRIO, joined, ([0, 1], [], []))
        self.check(TRIO, joined + [(("wake", 1), None, 8)], ([0, 1], [2], []))

    def test_the_same_way_found_by_two(self):
        rows = [
            (("wake", 0), None, 4),
            (("wake", 1), None, 4),
            (("wake", 2), None, 4),
            (("end", 1), 0, 2),
            (("end", 0), None, 0),
            (("end", 2), 1, 2),
        ]
        self.check(TRIO, rows, ([0, 1], [], []))

    def test_the_same_way_found_by_one_house_twice(self):
        rows = [(("wake", 0), None, 4), (("wake", 0), None, 4), (("end", 1), 0, 2), (("end", 0), None, 0)]
        self.check(TRIO, rows, ([0], [], []))

    def test_a_lot_that_grew_meanwhile(self):
        # PLACE's least ways: 0-1 (way 1), 0-3 (way 3), 4-5 (way 5), 1-2 (way 2), 0-2 (way 4), 2-3 (way 0).
        rows = [
            (("wake", 2), None, 6),
            (("wake", 0), None, 6),
            (("end", 1), 1, 1 + 1),
            # Of the lot 0 1: two letters within, ways 3 and 4 at 0, way 2 at 1.
            (("wake", 1), None, 2 + 4 + 2),
            (("end", 2), 3, 1 + 1),
            # The search of house 2 found 1-2: its lot takes the mark of three.
            (("end", 0), 2, 1 + 1),
            # All four: ways 0 and 4 from both ends, known then.
            (("wake", 3), None, 6 + 8),
            (("end", 3), None, 3),
        ]
        self.check(PLACE, rows, ([1, 2, 3], [0, 4], [0, 1, 2, 3]))

    def test_two_lots_of_two_join(self):
        web = (4, ((0, 1, 1), (2, 3, 1), (1, 2, 5)))
        rows = [
            (("wake", 1), None, 4),
            (("wake", 3), None, 2),
            (("end", 0), 0, 2),
            (("wake", 0), None, 2 + 2),
            (("end", 1), 1, 2),
            # Found while the other end was a house alone, ended where it is a lot of two: two houses take a mark.
            (("end", 2), 2, 1 + 2),
            (("wake", 0), None, 6),
            (("wake", 1), None, 6),
            (("end", 4), None, 3),
            (("end", 3), None, 0),
            (("wake", 2), None, 0),
        ]
        self.check(web, rows, ([0, 1, 2], [], [0, 1, 2, 3]))

    def test_like_prices_by_the_ends(self):
        web = (3, ((1, 2, 5), (0, 2, 5), (0, 1, 5)))
        rows = [(("wake", 2), None, 4), (("end", 0), 1, 2), (("wake", 1), None, 4), (("end", 1), 2, 2)]
        self.check(web, rows, ([1, 2], [], []))

    def test_a_lot_that_knows_beside_one_that_does_not(self):
        rows = [
            (("wake", 5), None, 2),
            (("end", 0), 5, 2),
            (("wake", 4), None, 2),
            (("end", 1), None, 1),
            (("wake", 4), None, 0),
            (("wake", 5), None, 0),
            (("wake", 3), None, 4),
            # The wakings of the lot that knows have taken the numbers 2 and 3.
            (("end", 4), 3, 2),
        ]
        self.check(PLACE, rows, ([3, 5], [], [4, 5]))

    def test_an_end_of_a_lot_that_knew_not_yet_at_the_waking(self):
        rows = [(("wake", 0), None, 0), (("wake", 0), None, 0), (("end", 1), None, 0), (("end", 0), None, 0)]
        self.check((2, ()), rows, ([], [], [0]))


class ByReckoning(unittest.TestCase):
    def test_any_events(self):
        chance = random.Random(14)
        for web in list(WEBS) + [TRIO, PLACE] + small_webs(80) + some_webs(80):
            events = random_events(web, chance, chance.randint(0, 40))
            letters, stand = slow_night(web, events)
            with self.subTest(web=web, events=events):
                self.assertEqual(letters_of(web, events), letters)
                self.assertEqual(stand_behind(web, events), stand)

    def test_till_all_know_the_forest_is_left(self):
        chance = random.Random(15)
        for web in list(WEBS) + [TRIO, PLACE] + small_webs(40) + some_webs(40):
            for _ in range(3):
                events = events_till_all_know(web, chance)
                letters, stand = slow_night(web, events)
                with self.subTest(web=web, events=events):
                    self.assertEqual(letters_of(web, events), letters)
                    self.assertEqual(stand_behind(web, events), stand)
                    self.assertEqual(stand[0], greedy(web))
                    self.assertEqual(stand_behind(web, events)[0], forest_of(web))
                    self.assertEqual(stand_behind(web, events)[2], list(range(web[0])))

    def test_each_way_put_in_is_one_of_the_forests(self):
        chance = random.Random(16)
        for web in small_webs(40) + some_webs(60):
            events = random_events(web, chance, 30)
            forest = greedy(web)
            put_in = [way for way, _ in letters_of(web, events) if way is not None]
            self.assertEqual(len(put_in), len(set(put_in)))
            self.assertLessEqual(set(put_in), set(forest))

    def test_all_wake_then_end_in_any_order(self):
        chance = random.Random(17)
        for web in [TRIO, PLACE, TOWN, FULL] + some_webs(40):
            for _ in range(3):
                ends = list(range(web[0]))
                chance.shuffle(ends)
                events = [("wake", house) for house in range(web[0])] + [("end", number) for number in ends]
                letters, stand = slow_night(web, events)
                self.assertEqual((letters_of(web, events), stand_behind(web, events)), (letters, stand))


class Refusals(RefusesNoWeb, unittest.TestCase):
    asks = ASKS
    further = (([],), ([("wake", 0)],), ([("", 0)],), ([("end", 0), None],))
    good = [("wake", 0), ("wake", 1), ("end", 1)]

    def place_refused(self, ask, web, events):
        with self.assertRaises(NoStep) as caught:
            ask(web, events)
        self.assertIs(type(caught.exception.place), int)
        return caught.exception.place

    def test_no_events_behind_good_ones(self):
        for ask in ASKS:
            for event in NO_EVENTS + ODD_THINGS:
                with self.subTest(ask.__name__, event=event):
                    self.assertEqual(self.place_refused(ask, TRIO, self.good + [event]), 3)

    def test_no_events_at_first(self):
        for ask in ASKS:
            for event in NO_EVENTS + ODD_THINGS + (("end", 0),):
                with self.subTest(ask.__name__, event=event):
                    self.assertEqual(self.place_refused(ask, TRIO, [event]), 0)

    def test_odd_things_in_events(self):
        for ask in ASKS:
            for odd in ODD_THINGS:
                for event in (("wake", odd), ("end", odd), (odd, 0)):
                    with self.subTest(ask.__name__, event=event):
                        self.assertEqual(self.place_refused(ask, TRIO, self.good + [event]), 3)

    def test_the_first_goes_first(self):
        for ask in ASKS:
            self.assertEqual(self.place_refused(ask, TRIO, [("wake", 0), ("end", 1), ("wake", 9)]), 1)
            self.assertEqual(self.place_refused(ask, TRIO, [("wake", 9), ("end", 1)]), 0)
            self.assertEqual(self.place_refused(ask, TRIO, self.good + [("wake", 3), ("end", 1), ("", 0)]), 3)

    def test_a_search_ended_twice(self):
        for ask in ASKS:
            events = [("wake", 0), ("end", 0), ("wake", 1), ("end", 0), ("end", 1)]
            self.assertEqual(self.place_refused(ask, TRIO, events), 3)

    def test_a_search_not_yet_begun(self):
        for ask in ASKS:
            self.assertEqual(self.place_refused(ask, TRIO, [("end", 0), ("wake", 0)]), 0)
            self.assertEqual(self.place_refused(ask, TRIO, [("wake", 0), ("end", 1), ("wake", 0)]), 1)

    def test_a_search_of_a_lot_that_knew(self):
        for ask in ASKS:
            events = [("wake", 0), ("end", 0), ("wake", 0), ("end", 1)]
            self.assertEqual(self.place_refused(ask, (2, ()), events), 3)
            ask((2, ()), events[:3] + [("wake", 1), ("end", 2)])

    def test_a_house_of_a_greater_web(self):
        for ask in ASKS:
            for many in range(1, 12):
                events = [("wake", house) for house in range(12)]
                self.assertEqual(self.place_refused(ask, (many, ()), events), many)

    def test_events_stay_as_they_were(self):
        for ask in ASKS:
            for event in [("wake", 2)] + [event for event in NO_EVENTS if event]:
                events = self.good + [event]
                kept = list(events)
                if event == ("wake", 2):
                    ask(TRIO, events)
                else:
                    self.place_refused(ask, TRIO, events)
                self.assertEqual(events, kept)
        self.assertEqual(self.good, [("wake", 0), ("wake", 1), ("end", 1)])

    def test_a_refusal_changes_nothing(self):
        for ask in ASKS:
            right = ask(TRIO, self.good)
            self.place_refused(ask, TRIO, self.good + [("end", 1)])
            self.assertEqual(ask(TRIO, self.good), right)


class Kinds(unittest.TestCase):
    events = [("wake", 0), ("end", 0), ("wake", 2), ("end", 1), ("wake", 1), ("end", 2)]

    def test_kinds(self):
        told = letters_of(TRIO, self.events)
        self.assertIs(type(told), list)
        self.assertEqual({type(one) for one in told}, {tuple})
        self.assertEqual({type(number) for one in told for number in one}, {int, type(None)})
        stand = stand_behind(TRIO, self.events)
        self.assertIs(type(stand), tuple)
        self.assertEqual([type(part) for part in stand], [list] * 3)
        night = Night(TRIO)
        self.assertIs(type(night.wake(0)), tuple)
        self.assertIs(type(night.under()), list)
        self.assertIs(type(night.end(0)), tuple)
        self.assertIs(type(night.stand()), tuple)
        self.assertEqual([type(part) for part in night.stand()], [list] * 3)

    def test_told_lists_are_the_askers_own(self):
        told = letters_of(TRIO, self.events)
        kept = list(told)
        told.append((9, 9))
        told[0] = None
        self.assertEqual(letters_of(TRIO, self.events), kept)
        stand = stand_behind(TRIO, self.events)
        for part in stand:
            part.append(99)
        self.assertEqual(stand_behind(TRIO, self.events), ([0, 1], [2], [0, 1, 2]))
        self.assertEqual(stand_behind(TRIO, []), ([], [], []))
        for part in stand_behind(TRIO, []):
            part.append(99)
        self.assertEqual(stand_behind(TRIO, []), ([], [], []))


class OfNight(RefusesNoWeb, unittest.TestCase):
    asks = (Night,)
    no_houses = ODD_THINGS + (-1, 3, 12, 10 ** 30, -(10 ** 30), [], [0], [[0]])
    no_searches = ODD_THINGS + (-1, 1, 2, 10 ** 30, -(10 ** 30), [], [0], [[0]])

    def test_each_event_as_letters_of_tells(self):
        chance = random.Random(18)
        for web in list(WEBS) + [TRIO, PLACE] + small_webs(30) + some_webs(40):
            events = random_events(web, chance, 25)
            letters = letters_of(web, events)
            night, slow = Night(web), SlowNight(web)
            for count, event in enumerate(events):
                told = night.wake(event[1]) if event[0] == "wake" else night.end(event[1])
                slow.tell(event)
                with self.subTest(web=web, events=events[: count + 1]):
                    self.assertEqual(told, letters[count])
                    self.assertEqual(night.stand(), stand_behind(web, events[: count + 1]))
                    self.assertEqual(night.under(), slow.under())

    def test_under_rises(self):
        night = Night((12, ()))
        self.assertEqual(night.under(), [])
        for house in range(11, -1, -1):
            night.wake(house)
        self.assertEqual(night.under(), list(range(12)))
        for number in (3, 11, 0, 7):
            night.end(number)
        self.assertEqual(night.under(), [1, 2, 4, 5, 6, 8, 9, 10])
        night.wake(8)
        self.assertEqual(night.under(), [1, 2, 4, 5, 6, 8, 9, 10])
        night.wake(9)
        self.assertEqual(night.under(), [1, 2, 4, 5, 6, 8, 9, 10, 13])

    def refuse_all(self, night):
        for thing in self.no_houses:
            with self.subTest(house=thing), self.assertRaises(NoHouse) as caught:
                night.wake(thing)
            self.assertEqual(caught.exception.place, 0)
        for thing in self.no_searches:
            with self.subTest(number=thing), self.assertRaises(NoStep) as caught:
                night.end(thing)
            self.assertEqual(caught.exception.place, 0)

    def test_refusals_change_nothing(self):
        for house in range(3):
            night, slow = Night(TRIO), SlowNight(TRIO)
            self.refuse_all(night)
            self.assertEqual(night.wake(house), slow.wake(house))
            self.refuse_all(night)
            self.assertEqual((night.stand(), night.under()), (slow.stand(), slow.under()))
            self.assertEqual(night.end(0), slow.end(0))
            self.refuse_all(night)
            self.assertEqual((night.stand(), night.under()), (slow.stand(), slow.under()))
            self.assertEqual(night.wake(house), slow.wake(house))
            self.assertEqual((night.stand(), night.under()), (slow.stand(), [1]))

    def test_refused_wakings_take_no_number(self):
        night = Night(TRIO)
        for thing in (3, -1, None, True):
            with self.assertRaises(NoHouse):
                night.wake(thing)
        night.wake(2)
        self.assertEqual(night.under(), [0])
        self.assertEqual(night.end(0), (1, 2))

    def test_ended_and_begun(self):
        night = Night((2, ()))
        with self.assertRaises(NoStep):
            night.end(0)
        night.wake(0)
        night.end(0)
        for number in (0, 1):
            with self.assertRaises(NoStep):
                night.end(number)
        self.assertEqual(night.wake(0), (None, 0))
        with self.assertRaises(NoStep):
            night.end(1)
        self.assertEqual((night.stand(), night.under()), (([], [], [0]), []))

    def test_two_by_turns(self):
        chance = random.Random(19)
        for web in [TRIO, PLACE, TOWN] + some_webs(10):
            pairs = [(Night(web), SlowNight(web)), (Night(web), SlowNight(web)), (Night(TRIO), SlowNight(TRIO))]
            for _ in range(40):
                night, slow = chance.choice(pairs)
                event = next_event(slow, slow.web, chance)
                told = night.wake(event[1]) if event[0] == "wake" else night.end(event[1])
                self.assertEqual(told, slow.tell(event))
                for one, other in pairs:
                    self.assertEqual((one.stand(), one.under()), (other.stand(), other.under()))

    def test_told_lists_are_the_askers_own(self):
        night = Night(PLACE)
        for house in (0, 1, 2, 4):
            night.wake(house)
        for number in (0, 2):
            night.end(number)
        stand, under = night.stand(), night.under()
        kept = tuple(map(list, stand))
        for part in stand + (under,):
            part.append(99)
            part.insert(0, 98)
        self.assertEqual((night.stand(), night.under()), (kept, [1, 3]))
        told = night.stand()
        night.end(3)
        night.wake(5)
        self.assertEqual(told, kept)
        self.assertEqual(night.stand(), ([1, 2, 5], [], []))


if __name__ == "__main__":
    unittest.main()
