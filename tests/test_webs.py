import unittest

from lotjoin.errors import NoWeb
from lotjoin.webs import is_web, order_of
from samples import FULL, ODD_THINGS, PAIRS, TOWN, WEBS, nested, some_webs

MOST = 10 ** 9

NO_WEBS = {
    "no house": (0, ()),
    "fewer than none": (-1, ()),
    "thirteen houses": (13, ()),
    "very many houses": (10 ** 30, ()),
    "thirty-one ways": (12, tuple((one, other, 1) for one, other in PAIRS[:31])),
    "all sixty-six ways": (12, tuple((one, other, 1) for one, other in PAIRS)),
    "price below 0": (2, ((0, 1, -1),)),
    "price above the most": (2, ((0, 1, MOST + 1),)),
    "price far below": (2, ((0, 1, -(10 ** 30)),)),
    "price far above": (2, ((0, 1, 10 ** 30),)),
    "price a text": (2, ((0, 1, "1"),)),
    "price None": (2, ((0, 1, None),)),
    "price a tuple": (2, ((0, 1, (1,)),)),
    "price a list": (2, ((0, 1, [1]),)),
    "ends alike": (3, ((1, 1, 5),)),
    "ends alike at 0": (1, ((0, 0, 5),)),
    "ends turned about": (3, ((2, 1, 5),)),
    "one below 0": (3, ((-1, 1, 5),)),
    "both below 0": (3, ((-2, -1, 5),)),
    "other no house": (3, ((0, 3, 5),)),
    "both no houses": (3, ((3, 4, 5),)),
    "a house that twelve have, three have not": (3, ((0, 11, 5),)),
    "a way and one house": (1, ((0, 1, 5),)),
    "end a text": (3, (("0", 1, 5),)),
    "other end a text": (3, ((0, "1", 5),)),
    "end None": (3, ((None, 1, 5),)),
    "other end None": (3, ((0, None, 5),)),
    "end a list": (3, (([0], 1, 5),)),
    "other end a list": (3, ((0, [1], 5),)),
    "both ends alike, unlike prices": (3, ((0, 1, 5), (1, 2, 5), (0, 1, 6))),
    "both ends alike, like prices": (3, ((0, 1, 5), (0, 1, 5))),
    "a list for the web": [2, ((0, 1, 5),)],
    "a list for the ways": (2, [(0, 1, 5)]),
    "an empty list for the ways": (2, []),
    "a list for a way": (2, ([0, 1, 5],)),
    "a list for the last way": (3, ((0, 1, 5), [1, 2, 5])),
    "nothing in the web": (),
    "a part fewer": (2,),
    "a part more": (2, (), ()),
    "a way's part fewer": (2, ((0, 1),)),
    "a way's part more": (2, ((0, 1, 5, 5),)),
    "a way of nothing": (2, ((),)),
    "ways not in a tuple": (2, (0, 1, 5)),
    "parts turned about": (((0, 1, 5),), 2),
    "a truth for many": (True, ()),
    "an untruth for many": (False, ()),
    "a truth for one": (3, ((True, 2, 5),)),
    "an untruth for one": (3, ((False, 2, 5),)),
    "a truth for other": (3, ((0, True, 5),)),
    "a truth for price": (3, ((0, 1, True),)),
    "an untruth for price": (3, ((0, 1, False),)),
    "a truth for ways": (3, True),
    "a truth for a way": (3, (True,)),
    "a text for many": ("2", ()),
    "a text for ways": (2, ""),
    "a text of three signs for a way": (2, ("011",)),
    "a text of two signs for the web": "2(",
    "None for many": (None, ()),
    "None for ways": (2, None),
    "None for a way": (2, (None,)),
    "a wrong way behind right ones": (3, ((0, 1, 5), (0, 2, 5), (1, 2, -5))),
    "a wrong way ahead of right ones": (3, ((0, 1, -5), (0, 2, 5), (1, 2, 5))),
    "deep tuples for a way": (2, (nested(tuple, 6, 1),)),
    "deep lists for an end": (2, ((nested(list, 5, 1), 1, 1),)),
    "deep lists for both ends": (2, ((nested(list, 5, 1), nested(list, 5, 1), 1),)),
}


class IsWeb(unittest.TestCase):
    def test_webs(self):
        for web in WEBS:
            with self.subTest(web=web):
                self.assertIs(is_web(web), True)

    def test_each_count_of_houses(self):
        for many in range(-2, 16):
            with self.subTest(many=many):
                self.assertIs(is_web((many, ())), 1 <= many <= 12)

    def test_each_count_of_ways(self):
        for count in range(0, 34):
            ways = tuple((one, other, count) for one, other in PAIRS[:count])
            with self.subTest(count=count):
                self.assertIs(is_web((12, ways)), count <= 30)

    def test_each_pair_of_ends(self):
        for one in range(-1, 6):
            for other in range(-1, 6):
                with self.subTest(one=one, other=other):
                    self.assertIs(is_web((4, ((one, other, 1),))), 0 <= one < other < 4)

    def test_prices(self):
        for price in (0, 1, MOST - 1, MOST):
            with self.subTest(price=price):
                self.assertIs(is_web((2, ((0, 1, price),))), True)

    def test_like_prices_and_shared_ends(self):
        self.assertIs(is_web((3, ((0, 1, 5), (0, 2, 5), (1, 2, 5)))), True)

    def test_what_is_none(self):
        for name, thing in NO_WEBS.items():
            with self.subTest(name):
                self.assertIs(is_web(thing), False)

    def test_of_anything(self):
        for thing in ODD_THINGS + (0, 1, 2, [], [[]], [1, ()]):
            with self.subTest(thing=thing):
                self.assertIs(is_web(thing), False)

    def test_odd_things_at_each_place(self):
        for odd in ODD_THINGS + (-1, 10 ** 30, [], [1]):
            for thing in ((odd, ()), (3, (odd,)), (3, ((odd, 2, 1),)), (3, ((0, odd, 1),)), (3, ((0, 1, odd),))):
                with self.subTest(thing=thing):
                    self.assertIs(is_web(thing), False)

    def test_what_is_handed_in_stays(self):
        thing = [2, [[0, 1, 5]]]
        self.assertIs(is_web(thing), False)
        self.assertEqual(thing, [2, [[0, 1, 5]]])


class OrderOf(unittest.TestCase):
    def test_by_price(self):
        self.assertEqual(order_of((4, ((0, 1, 30), (0, 2, 10), (0, 3, 20)))), [1, 2, 0])

    def test_prices_as_numbers(self):
        self.assertEqual(order_of((3, ((0, 1, 10), (0, 2, 9), (1, 2, MOST)))), [1, 0, 2])

    def test_like_prices_by_the_one_then_the_other(self):
        web = (4, ((2, 3, 5), (1, 3, 5), (1, 2, 5), (0, 3, 5), (0, 2, 5), (0, 1, 5)))
        self.assertEqual(order_of(web), [5, 4, 3, 2, 1, 0])

    def test_the_one_goes_ahead_of_the_other(self):
        self.assertEqual(order_of((4, ((1, 2, 5), (0, 3, 5)))), [1, 0])

    def test_the_price_goes_ahead_of_the_ends(self):
        self.assertEqual(order_of((4, ((0, 1, 6), (2, 3, 5)))), [1, 0])

    def test_ends_as_numbers(self):
        self.assertEqual(order_of((12, ((0, 10, 1), (0, 9, 1), (10, 11, 1), (9, 11, 1)))), [1, 0, 3, 2])

    def test_no_ways(self):
        self.assertEqual(order_of((1, ())), [])
        self.assertEqual(order_of((12, ())), [])

    def test_town(self):
        self.assertEqual(order_of(TOWN), [3, 1, 2, 0, 5, 4])

    def test_each_is_lesser_than_the_one_behind(self):
        for web in list(WEBS) + some_webs(200):
            order = order_of(web)
            self.assertIsInstance(order, list)
            self.assertEqual(sorted(order), list(range(len(web[1]))))
            for ahead, behind in zip(order, order[1:]):
                one, other, price = web[1][ahead]
                later_one, later_other, later_price = web[1][behind]
                self.assertLess((price, one, other), (later_price, later_one, later_other))

    def test_the_told_list_is_the_askers_own(self):
        for web in (TOWN, FULL):
            told = order_of(web)
            kept = list(told)
            told.reverse()
            told.append(99)
            again = order_of(web)
            self.assertEqual(again, kept)
            self.assertIsNot(again, told)
            again.clear()
            self.assertEqual(order_of(web), kept)

    def test_no_web(self):
        for name, thing in NO_WEBS.items():
            with self.subTest(name), self.assertRaises(NoWeb):
                order_of(thing)
        for thing in ODD_THINGS:
            with self.subTest(thing=thing), self.assertRaises(NoWeb):
                order_of(thing)


if __name__ == "__main__":
    unittest.main()
