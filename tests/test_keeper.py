import random
import unittest

from lotjoin.errors import Closed, Free, LotError, NoPrice, NoWay, Nothing
from lotjoin.forest import forest_of
from lotjoin.keeper import Keeper
from reckon import SlowKeeper, greedy_but, weight, with_price
from refusals import RefusesNoWeb
from samples import FULL, MOST, ODD_THINGS, TOWN, WEBS, small_webs, some_webs

TRIO = (3, ((0, 1, 1), (1, 2, 2), (0, 2, 3)))
NO_PRICES = ODD_THINGS + (-1, MOST + 1, 10 ** 30, -(10 ** 30), [], [5])


def all_of(keeper):
    return (keeper.web(), keeper.closed(), keeper.forest(), keeper.weight())


def random_change(slow, chance):
    """A change that can be done: a name and what is handed in."""
    many, closed = len(slow.web()[1]), slow.closed()
    changes = [("back",)] * (len(slow.stands) > 1)
    if many:
        number = chance.randrange(many)
        price = chance.choice((0, 1, 2, 5, MOST, slow.web()[1][number][2], chance.randint(0, MOST)))
        changes += [("price", number, price)] * 2
        changes += [("free", number) if number in closed else ("close", number)] * 2
    return chance.choice(changes) if changes else None


class Changes(unittest.TestCase):
    def test_at_first(self):
        for web in list(WEBS) + small_webs(30) + some_webs(40):
            keeper = Keeper(web)
            self.assertEqual(all_of(keeper), (web, [], greedy_but(web, ()), weight(web, greedy_but(web, ()))))

    def test_prices_by_hand(self):
        keeper = Keeper(TRIO)
        self.assertEqual(keeper.price(2, 1), (1, 2))
        self.assertEqual((keeper.forest(), keeper.weight()), ([0, 2], 2))
        self.assertEqual(keeper.price(1, 0), (2, 1))
        self.assertEqual(keeper.price(0, 9), (0, 2))
        self.assertEqual(keeper.price(0, 8), (None, None))
        self.assertEqual(all_of(keeper), ((3, ((0, 1, 8), (1, 2, 0), (0, 2, 1))), [], [1, 2], 1))

    def test_like_prices_by_the_ends(self):
        keeper = Keeper((3, ((1, 2, 5), (0, 2, 5), (0, 1, 5))))
        self.assertEqual(keeper.forest(), [1, 2])
        self.assertEqual(keeper.price(2, 6), (2, 0))
        self.assertEqual(keeper.price(1, 6), (1, 2))
        self.assertEqual(keeper.price(2, 6), (None, None))
        self.assertEqual(keeper.forest(), [0, 2])

    def test_closing_and_freeing_by_hand(self):
        keeper = Keeper(TRIO)
        self.assertEqual(keeper.close(2), (None, None))
        self.assertEqual(keeper.close(0), (0, None))
        self.assertEqual(all_of(keeper), (TRIO, [0, 2], [1], 2))
        self.assertEqual(keeper.free(2), (None, 2))
        self.assertEqual(keeper.close(1), (1, None))
        self.assertEqual(keeper.free(1), (None, 1))
        self.assertEqual(keeper.free(0), (2, 0))
        self.assertEqual(keeper.close(1), (1, 2))
        self.assertEqual(all_of(keeper), (TRIO, [1], [0, 2], 4))

    def test_the_same_price_again_is_a_change(self):
        keeper = Keeper(TRIO)
        keeper.close(0)
        self.assertEqual(keeper.price(1, 2), (None, None))
        self.assertEqual(keeper.back(), (None, None))
        self.assertEqual(keeper.closed(), [0])
        self.assertEqual(keeper.back(), (2, 0))
        with self.assertRaises(Nothing):
            keeper.back()

    def test_a_closed_ways_price(self):
        keeper = Keeper(TRIO)
        keeper.close(2)
        self.assertEqual(keeper.price(2, 0), (None, None))
        self.assertEqual(all_of(keeper), (with_price(TRIO, 2, 0), [2], [0, 1], 3))
        self.assertEqual(keeper.free(2), (1, 2))
        self.assertEqual(all_of(keeper), (with_price(TRIO, 2, 0), [], [0, 2], 1))
        self.assertEqual(keeper.back(), (2, 1))
        self.assertEqual(keeper.back(), (None, None))
        self.assertEqual(all_of(keeper), (TRIO, [2], [0, 1], 3))

    def test_all_closed(self):
        for web in (TOWN, FULL, (1, ()), (2, ((0, 1, 5),))):
            keeper = Keeper(web)
            for number in reversed(range(len(web[1]))):
                keeper.close(number)
            self.assertEqual(all_of(keeper), (web, list(range(len(web[1]))), [], 0))
            for number in range(len(web[1])):
                keeper.free(number)
            self.assertEqual((keeper.closed(), keeper.forest()), ([], forest_of(web)))

    def test_prices_at_the_bounds(self):
        keeper = Keeper(TRIO)
        for price in (0, MOST):
            for number in range(3):
                keeper.price(number, price)
            self.assertEqual((keeper.web()[1][2][2], keeper.weight()), (price, 2 * price))

    def test_any_changes_in_any_order(self):
        chance = random.Random(21)
        for web in list(WEBS) + [TRIO] + small_webs(30)[::3] + some_webs(40):
            keeper, slow = Keeper(web), SlowKeeper(web)
            for _ in range(25):
                change = random_change(slow, chance)
                if change is None:
                    break
                told = getattr(keeper, change[0])(*change[1:])
                with self.subTest(web=web, change=change):
                    self.assertEqual(told, getattr(slow, change[0])(*change[1:]))
                    self.assertEqual(all_of(keeper), all_of(slow))

    def test_back_to_the_beginning(self):
        chance = random.Random(22)
        for web in [TRIO, TOWN, FULL] + some_webs(20):
            keeper, slow = Keeper(web), SlowKeeper(web)
            for _ in range(20 if web[1] else 0):
                change = random_change(slow, chance)
                getattr(keeper, change[0])(*change[1:])
                getattr(slow, change[0])(*change[1:])
            while len(slow.stands) > 1:
                self.assertEqual(keeper.back(), slow.back())
                self.assertEqual(all_of(keeper), all_of(slow))
            self.assertEqual(all_of(keeper), all_of(Keeper(web)))
            for _ in range(3):
                with self.assertRaises(Nothing):
                    keeper.back()
            self.assertEqual(all_of(keeper), all_of(Keeper(web)))

    def test_changes_behind_a_back(self):
        keeper = Keeper(TRIO)
        keeper.close(0)
        keeper.price(1, 7)
        keeper.back()
        self.assertEqual(keeper.close(1), (1, None))
        self.assertEqual(keeper.back(), (None, 1))
        self.assertEqual(keeper.back(), (2, 0))
        with self.assertRaises(Nothing):
            keeper.back()

    def test_two_by_turns(self):
        chance = random.Random(23)
        for web in [TRIO, TOWN] + [web for web in some_webs(15) if web[1]]:
            pairs = [(Keeper(web), SlowKeeper(web)), (Keeper(web), SlowKeeper(web)), (Keeper(TRIO), SlowKeeper(TRIO))]
            for _ in range(30):
                keeper, slow = chance.choice(pairs)
                change = random_change(slow, chance)
                self.assertEqual(getattr(keeper, change[0])(*change[1:]), getattr(slow, change[0])(*change[1:]))
                for one, other in pairs:
                    self.assertEqual(all_of(one), all_of(other))


class Refusals(RefusesNoWeb, unittest.TestCase):
    asks = (Keeper,)

    def setUp(self):
        self.keeper = Keeper(TOWN)
        self.keeper.close(3)
        self.keeper.price(1, 8)
        self.ahead = all_of(self.keeper)

    def refused(self, error, name, *arguments):
        with self.subTest(name, arguments=arguments):
            with self.assertRaises(LotError) as caught:
                getattr(self.keeper, name)(*arguments)
            self.assertIs(type(caught.exception), error)
            self.assertEqual(all_of(self.keeper), self.ahead)
            if error is NoWay:
                self.assertEqual((caught.exception.place, type(caught.exception.place)), (0, int))

    def tearDown(self):
        # Nothing refused stands among the changes.
        self.keeper.back()
        self.assertEqual((self.keeper.web(), self.keeper.closed()), (TOWN, [3]))
        self.keeper.back()
        self.assertEqual((self.keeper.web(), self.keeper.closed()), (TOWN, []))
        with self.assertRaises(Nothing):
            self.keeper.back()

    def test_no_way(self):
        for thing in ODD_THINGS + (-1, 6, 10 ** 30, -(10 ** 30), [], [0], [[0]]):
            self.refused(NoWay, "price", thing, 5)
            self.refused(NoWay, "close", thing)
            self.refused(NoWay, "free", thing)

    def test_no_price(self):
        for thing in NO_PRICES:
            for number in (0, 3, 5):
                self.refused(NoPrice, "price", number, thing)

    def test_no_way_goes_ahead_of_no_price(self):
        for thing in NO_PRICES:
            for number in (6, -1, True, None, [0]):
                self.refused(NoWay, "price", number, thing)

    def test_closed_and_free(self):
        self.refused(Closed, "close", 3)
        for number in (0, 1, 2, 4, 5):
            self.refused(Free, "free", number)

    def test_a_web_without_ways(self):
        for many in (1, 12):
            keeper = Keeper((many, ()))
            for number in (0, -1, None):
                for name, more in (("price", (5,)), ("price", (-5,)), ("close", ()), ("free", ())):
                    with self.assertRaises(NoWay):
                        getattr(keeper, name)(number, *more)
            with self.assertRaises(Nothing):
                keeper.back()


class Kinds(unittest.TestCase):
    def test_kinds(self):
        keeper = Keeper(TOWN)
        for told in (keeper.price(0, 1), keeper.close(0), keeper.free(0), keeper.back(), keeper.web()):
            self.assertIs(type(told), tuple)
        self.assertEqual([type(told) for told in (keeper.closed(), keeper.forest())], [list, list])
        self.assertIs(type(keeper.weight()), int)

    def test_told_lists_are_the_askers_own(self):
        keeper = Keeper(TOWN)
        keeper.close(0)
        keeper.close(5)
        told, ahead = all_of(keeper), all_of(keeper)
        told[1].append(1)
        told[2].clear()
        self.assertEqual(all_of(keeper), ahead)
        told = all_of(keeper)
        keeper.close(1)
        keeper.price(4, 0)
        self.assertEqual(told, ahead)
        keeper.back()
        keeper.back()
        self.assertEqual(all_of(keeper), ahead)
        keeper.closed().append(2)
        keeper.free(5)
        keeper.closed().clear()
        keeper.back()
        self.assertEqual(all_of(keeper), ahead)

    def test_the_web_handed_in_stays(self):
        keeper = Keeper(TRIO)
        keeper.price(0, 9)
        self.assertEqual(TRIO, (3, ((0, 1, 1), (1, 2, 2), (0, 2, 3))))


if __name__ == "__main__":
    unittest.main()
