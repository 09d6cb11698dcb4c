import unittest

from lotjoin.webs import is_web, order_of
from refusals import RefusesNoWeb
from samples import FULL, MOST, NO_WEBS, ODD_THINGS, PAIRS, TOWN, WEBS, some_webs


class IsWeb(unittest.TestCase):
    def test_webs(self):
        for web in WEBS:
            with self.subTest(web=web):
                self.assertIs(is_web(web), True)

    def test_each_count_of_houses(self):
        for many in range(-2, 16):
            with self.subTest(many=many):
                self.assertIs(is_web((many, ())), 1 <= many <= 12)

    def test_each_count_of_ways(self):
        for count in range(0, 34):
            ways = tuple((one, other, count) for one, other in PAIRS[:count])
            with self.subTest(count=count):
                self.assertIs(is_web((12, ways)), count <= 30)

    def test_each_pair_of_ends(self):
        for one in range(-1, 6):
            for other in range(-1, 6):
                with self.subTest(one=one, other=other):
                    self.assertIs(is_web((4, ((one, other, 1),))), 0 <= one < other < 4)

    def test_prices(self):
        for price in (0, 1, MOST - 1, MOST):
            with self.subTest(price=price):
                self.assertIs(is_web((2, ((0, 1, price),))), True)

    def test_like_prices_and_shared_ends(self):
        self.assertIs(is_web((3, ((0, 1, 5), (0, 2, 5), (1, 2, 5)))), True)

    def test_what_is_none(self):
        for name, thing in NO_WEBS.items():
            with self.subTest(name):
                self.assertIs(is_web(thing), False)

    def test_of_anything(self):
        for thing in ODD_THINGS + (0, 1, 2, [], [[]], [1, ()]):
            with self.subTest(thing=thing):
                self.assertIs(is_web(thing), False)

    def test_odd_things_at_each_place(self):
        for odd in ODD_THINGS + (-1, 10 ** 30, [], [1]):
            for thing in ((odd, ()), (3, (odd,)), (3, ((odd, 2, 1),)), (3, ((0, odd, 1),)), (3, ((0, 1, odd),))):
                with self.subTest(thing=thing):
                    self.assertIs(is_web(thing), False)

    def test_what_is_handed_in_stays(self):
        thing = [2, [[0, 1, 5]]]
        self.assertIs(is_web(thing), False)
        self.assertEqual(thing, [2, [[0, 1, 5]]])


class OrderOf(RefusesNoWeb, unittest.TestCase):
    asks = (order_of,)

    def test_by_price(self):
        self.assertEqual(order_of((4, ((0, 1, 30), (0, 2, 10), (0, 3, 20)))), [1, 2, 0])

    def test_prices_as_numbers(self):
        self.assertEqual(order_of((3, ((0, 1, 10), (0, 2, 9), (1, 2, MOST)))), [1, 0, 2])

    def test_like_prices_by_the_one_then_the_other(self):
        web = (4, ((2, 3, 5), (1, 3, 5), (1, 2, 5), (0, 3, 5), (0, 2, 5), (0, 1, 5)))
        self.assertEqual(order_of(web), [5, 4, 3, 2, 1, 0])

    def test_the_one_goes_ahead_of_the_other(self):
        self.assertEqual(order_of((4, ((1, 2, 5), (0, 3, 5)))), [1, 0])

    def test_the_price_goes_ahead_of_the_ends(self):
        self.assertEqual(order_of((4, ((0, 1, 6), (2, 3, 5)))), [1, 0])

    def test_ends_as_numbers(self):
        self.assertEqual(order_of((12, ((0, 10, 1), (0, 9, 1), (10, 11, 1), (9, 11, 1)))), [1, 0, 3, 2])

    def test_no_ways(self):
        self.assertEqual(order_of((1, ())), [])
        self.assertEqual(order_of((12, ())), [])

    def test_town(self):
        self.assertEqual(order_of(TOWN), [3, 1, 2, 0, 5, 4])

    def test_each_is_lesser_than_the_one_behind(self):
        for web in list(WEBS) + some_webs(200):
            order = order_of(web)
            self.assertIsInstance(order, list)
            self.assertEqual(sorted(order), list(range(len(web[1]))))
            for ahead, behind in zip(order, order[1:]):
                one, other, price = web[1][ahead]
                later_one, later_other, later_price = web[1][behind]
                self.assertLess((price, one, other), (later_price, later_one, later_other))

    def test_the_told_list_is_the_askers_own(self):
        for web in (TOWN, FULL):
            told = order_of(web)
            kept = list(told)
            told.reverse()
            told.append(99)
            again = order_of(web)
            self.assertEqual(again, kept)
            self.assertIsNot(again, told)
            again.clear()
            self.assertEqual(order_of(web), kept)


if __name__ == "__main__":
    unittest.main()
