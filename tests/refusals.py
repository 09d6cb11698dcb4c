"""Refusals that several functions have alike, to be mixed into test cases."""

from lotjoin.errors import NoWay, NoWeb
from samples import NO_LISTS, NO_WEBS, ODD_THINGS, REFUSED_WAYS, TOWN


class RefusesNoWeb:
    """asks: functions; further: what is handed in behind the web, right and wrong."""

    asks = ()
    further = ((),)

    def test_no_web_goes_ahead(self):
        for ask in self.asks:
            for thing in list(NO_WEBS.values()) + list(ODD_THINGS):
                for behind in self.further:
                    with self.subTest(ask.__name__, thing=thing, behind=behind), self.assertRaises(NoWeb):
                        ask(thing, *behind)


class RefusesWays(RefusesNoWeb):
    """asks: functions of a web and ways."""

    further = (([],), ([0],), (None,), ((),), ("",), ([0, 0],), ([True],), ([99],), ([-1],))

    def test_a_refused_list_stays_as_it_was(self):
        for ask in self.asks:
            ways = [3, 1, [2], 1]
            with self.assertRaises(NoWay):
                ask(TOWN, ways)
            self.assertEqual(ways, [3, 1, [2], 1])

    def test_a_refusal_changes_nothing(self):
        for ask in self.asks:
            right = ask(TOWN, [3, 1])
            with self.assertRaises(NoWay):
                ask(TOWN, [3, 1, 3])
            self.assertEqual(ask(TOWN, [3, 1]), right)

    def test_refused_with_the_place(self):
        for ask in self.asks:
            for ways, place in REFUSED_WAYS:
                with self.subTest(ask.__name__, ways=ways):
                    with self.assertRaises(NoWay) as caught:
                        ask(TOWN, ways)
                    self.assertEqual(caught.exception.place, place)
                    self.assertIs(type(caught.exception.place), int)

    def test_odd_things_behind_right_ones(self):
        for ask in self.asks:
            for odd in ODD_THINGS:
                for ahead in range(4):
                    ways = list(range(5, 5 - ahead, -1)) + [odd]
                    with self.subTest(ask.__name__, ways=ways):
                        with self.assertRaises(NoWay) as caught:
                            ask(TOWN, ways)
                        self.assertEqual(caught.exception.place, ahead)

    def test_no_list(self):
        for ask in self.asks:
            for thing in NO_LISTS:
                with self.subTest(ask.__name__, thing=thing):
                    with self.assertRaises(NoWay) as caught:
                        ask(TOWN, thing)
                    self.assertEqual(caught.exception.place, 0)
