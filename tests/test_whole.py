"""What is promised over the whole program."""

import importlib
import inspect
import random
import unittest

from lotjoin.counts import forest_by, how_many, number_of
from lotjoin.desk import Desk
from lotjoin.errors import NoWeb
from lotjoin.fewest import fewest, shows_few
from lotjoin.forest import forest_of, is_shown, reasons_of
from lotjoin.keeper import Keeper
from lotjoin.lots import lots_of, need_ways, weight_of
from lotjoin.marks import marks_of
from lotjoin.narrow import is_narrow, narrow_of, next_best
from lotjoin.rounds import round_of, rounds_of
from lotjoin.steps import stand_of, step_of
from lotjoin.texts import read_web, show_web
from lotjoin.wakings import Night, letters_of, stand_behind
from lotjoin.webs import order_of
from reckon import greedy, lists_of, weight
from samples import NO_WEBS, ODD_THINGS, TOWN, WEBS, small_webs, some_webs

# Every function that is told a web, with what is handed in behind it: right, then wrong.
TOLD_A_WEB = (
    (order_of, (), ()),
    (need_ways, ([],), (None,)),
    (lots_of, ([],), ([0, 0],)),
    (weight_of, ([],), ([-1],)),
    (forest_of, (), ()),
    (reasons_of, (), ()),
    (is_shown, ([], []), ([9, 9], [])),
    (round_of, ([],), ("",)),
    (rounds_of, (), ()),
    (stand_of, ([],), ([("", [])],)),
    (step_of, ([],), ([("ring", [9])],)),
    (marks_of, ([],), ([True],)),
    (letters_of, ([],), ([("end", 0)],)),
    (stand_behind, ([],), ([("wake", -1)],)),
    (Night, (), ()),
    (fewest, (), ()),
    (shows_few, (0, []), (0, [(((9,), (), ()), 0)])),
    (Keeper, (), ()),
    (how_many, (), ()),
    (forest_by, (0,), (-1,)),
    (number_of, ([],), ([9, 9],)),
    (narrow_of, (0, 1), (0, 0)),
    (is_narrow, (0, 1, 0, [0]), (None, None, -1, [9, 9])),
    (next_best, (), ()),
    (show_web, (), ()),
)

# The interface: each module's names with how many arguments they take, of a class with those of its methods.
INTERFACE = {
    "webs": {"is_web": 1, "order_of": 1},
    "lots": {"need_ways": 2, "lots_of": 2, "weight_of": 2},
    "forest": {"forest_of": 1, "reasons_of": 1, "is_shown": 3},
    "rounds": {"round_of": 2, "rounds_of": 1},
    "steps": {"stand_of": 2, "step_of": 2},
    "marks": {"marks_of": 2},
    "wakings": {"letters_of": 2, "stand_behind": 2, "Night": {"wake": 1, "end": 1, "stand": 0, "under": 0}},
    "fewest": {"fewest": 1, "shows_few": 3},
    "keeper": {
        "Keeper": {"web": 0, "closed": 0, "forest": 0, "weight": 0, "price": 2, "close": 1, "free": 1, "back": 0},
    },
    "counts": {"how_many": 1, "forest_by": 2, "number_of": 2},
    "narrow": {"narrow_of": 3, "is_narrow": 5, "next_best": 1},
    "texts": {"show_web": 1, "show_list": 1, "read_web": 1, "read_list": 1},
    "desk": {"Desk": {"say": 1}},
}


def beside(web, other):
    """Both webs as one: the other's houses and ways are numbered behind the one's."""
    ways = tuple((one + web[0], far + web[0], price) for one, far, price in other[1])
    return (web[0] + other[0], web[1] + ways)


def moved(numbers, by):
    return [number + by for number in numbers]


def pairs_of_webs():
    webs = small_webs(40)[::3]
    return [(web, other) for web, other in zip(webs, webs[7:] + webs[:7])]


def night_till_all_know(web, chance):
    night = Night(web)
    while len(night.stand()[2]) < web[0]:
        under = night.under()
        if under and chance.random() < 0.5:
            night.end(chance.choice(under))
        else:
            night.wake(chance.randrange(web[0]))
    return night


class Interface(unittest.TestCase):
    def test_names_and_arguments(self):
        for module, names in INTERFACE.items():
            held = importlib.import_module("lotjoin." + module)
            for name, arguments in names.items():
                with self.subTest(module, name=name):
                    if isinstance(arguments, int):
                        self.assertEqual(len(inspect.signature(getattr(held, name)).parameters), arguments)
                        continue
                    for method, count in arguments.items():
                        told = inspect.signature(getattr(getattr(held, name), method)).parameters
                        self.assertEqual(len(told), count + 1)


class NoWebGoesAhead(unittest.TestCase):
    def test_by_every_function(self):
        for ask, right, wrong in TOLD_A_WEB:
            for thing in list(NO_WEBS.values()) + list(ODD_THINGS):
                for behind in (right, wrong):
                    with self.subTest(ask.__name__, thing=thing, behind=behind), self.assertRaises(NoWeb):
                        ask(thing, *behind)

    def test_webs_are_not_refused(self):
        for ask, right, _ in TOLD_A_WEB:
            ask((2, ((0, 1, 5),)), *right)


class OneForest(unittest.TestCase):
    webs = list(WEBS) + small_webs(40)[::4] + some_webs(30)

    def test_none_weighs_less(self):
        for web in small_webs(60)[::2]:
            told = weight_of(web, forest_of(web))
            many, least = how_many(web)
            weights = [weight(web, forest_by(web, number)) for number in range(many)]
            self.assertEqual((min(weights), weights.count(told)), (told, least))

    def test_nights(self):
        chance = random.Random(29)
        for web in self.webs:
            for _ in range(3):
                self.assertEqual(night_till_all_know(web, chance).stand()[0], forest_of(web))

    def test_rounds_and_steps(self):
        for web in self.webs:
            self.assertEqual(sorted(number for part in rounds_of(web) for number in part), forest_of(web))
            steps = []
            while step_of(web, steps) is not None:
                steps.append(step_of(web, steps))
            self.assertEqual(stand_of(web, steps)[0], forest_of(web))

    def test_keepers(self):
        chance = random.Random(30)
        for web in self.webs:
            # From a web with all prices alike and all ways closed, in any order.
            keeper = Keeper((web[0], tuple((one, other, 5) for one, other, _ in web[1])))
            changes = [("close", number) for number in range(len(web[1]))]
            chance.shuffle(changes)
            later = [(chance.random(), ("price", number, way[2])) for number, way in enumerate(web[1])]
            later += [(chance.random(), ("free", number)) for number in range(len(web[1]))]
            for change in changes + [change for _, change in sorted(later)]:
                getattr(keeper, change[0])(*change[1:])
            self.assertEqual((keeper.web(), keeper.forest()), (web, forest_of(web)))

    def test_desks(self):
        for web in self.webs:
            desk = Desk()
            desk.say("web " + show_web(web))
            self.assertEqual(desk.say("forest"), " ".join(map(str, greedy(web))) or "-")

    def test_nobodys_paper_shows_another(self):
        for web in small_webs(12)[60:]:
            reasons = reasons_of(web)
            shown = [ways for ways in lists_of(len(web[1])) if is_shown(web, ways, reasons)]
            self.assertEqual(shown, [forest_of(web)])

    def test_numbers_and_forests_are_one_anothers(self):
        for web in small_webs(30)[::3]:
            numbers = range(how_many(web)[0])
            self.assertEqual([number_of(web, forest_by(web, number)) for number in numbers], list(numbers))

    def test_rows_at_once_have_no_fewer_letters(self):
        chance = random.Random(31)
        for web in small_webs(40)[::3]:
            told = fewest(web)[0]
            for _ in range(5):
                night, letters = Night(web), 0
                while len(night.stand()[2]) < web[0]:
                    letters += night.wake(chance.randrange(web[0]))[1]
                    letters += sum(night.end(number)[1] for number in night.under())
                self.assertGreaterEqual(letters, told)


class SideBySide(unittest.TestCase):
    def test_forests_rounds_and_weights(self):
        for web, other in pairs_of_webs():
            both, ways = beside(web, other), len(web[1])
            self.assertEqual(forest_of(both), forest_of(web) + moved(forest_of(other), ways))
            self.assertEqual(
                weight_of(both, forest_of(both)), weight_of(web, forest_of(web)) + weight_of(other, forest_of(other))
            )
            self.assertEqual(round_of(both, []), round_of(web, []) + moved(round_of(other, []), ways))
            self.assertEqual(
                lots_of(both, forest_of(both)),
                lots_of(web, forest_of(web)) + [moved(lot, web[0]) for lot in lots_of(other, forest_of(other))],
            )
            self.assertEqual(read_web(show_web(both)), both)

    def test_counts(self):
        for web, other in pairs_of_webs():
            one, two = how_many(web), how_many(other)
            self.assertEqual(how_many(beside(web, other)), (one[0] * two[0], one[1] * two[1]))
            # Lists go by the one's ways first.
            number = number_of(beside(web, other), forest_of(web) + moved(forest_of(other), len(web[1])))
            self.assertEqual(number, number_of(web, forest_of(web)) * two[0] + number_of(other, forest_of(other)))

    def test_narrow_and_next(self):
        for web, other in pairs_of_webs():
            both = beside(web, other)
            for one in range(both[0]):
                for far in range(both[0]):
                    if one == far:
                        continue
                    told = narrow_of(both, one, far)
                    if one < web[0] and far < web[0]:
                        right = narrow_of(web, one, far)
                    elif one >= web[0] and far >= web[0]:
                        right = narrow_of(other, one - web[0], far - web[0])
                        right = right and (right[0] + len(web[1]),)
                    else:
                        right = None
                    self.assertEqual(told and told[0], right and right[0])
            mores = [told[0] for told in (next_best(web), next_best(other)) if told]
            told = next_best(both)
            self.assertEqual(told and told[0], min(mores) if mores else None)

    def test_nights(self):
        chance = random.Random(32)
        for web, other in pairs_of_webs():
            both, parts, searches = Night(beside(web, other)), (Night(web), Night(other)), []
            begun = [0, 0]
            for _ in range(30):
                under = both.under()
                if under and chance.random() < 0.5:
                    number = chance.choice(under)
                    side, own = searches[number]
                    told, right = both.end(number), parts[side].end(own)
                else:
                    house = chance.randrange(web[0] + other[0])
                    side = int(house >= web[0])
                    searches.append((side, begun[side]))
                    begun[side] += 1
                    told, right = both.wake(house), parts[side].wake(house - side * web[0])
                way = None if right[0] is None else right[0] + side * len(web[1])
                self.assertEqual(told, (way, right[1]))
            one, two = parts[0].stand(), parts[1].stand()
            ways = len(web[1])
            right = (one[0] + moved(two[0], ways), one[1] + moved(two[1], ways), one[2] + moved(two[2], web[0]))
            self.assertEqual(both.stand(), right)

    def test_fewest(self):
        small = [web for web in small_webs(120)[64:] if web[0] <= 3]
        checked = 0
        for web, other in zip(small, small[1:]):
            if web[0] + other[0] <= 5:
                checked += 1
                self.assertEqual(fewest(beside(web, other))[0], fewest(web)[0] + fewest(other)[0])
        self.assertGreater(checked, 10)

    def test_keepers(self):
        chance = random.Random(33)
        for web, other in pairs_of_webs():
            both, parts = Keeper(beside(web, other)), (Keeper(web), Keeper(other))
            for _ in range(20 if both.web()[1] else 0):
                number = chance.randrange(len(both.web()[1]))
                side = int(number >= len(web[1]))
                own = number - side * len(web[1])
                name = "free" if number in both.closed() else chance.choice(("close", "price"))
                price = (chance.randint(0, 3),) * (name == "price")
                told = getattr(both, name)(number, *price)
                right = getattr(parts[side], name)(own, *price)
                right = tuple(None if way is None else way + side * len(web[1]) for way in right)
                self.assertEqual(told, right)
            self.assertEqual(both.weight(), parts[0].weight() + parts[1].weight())


class WhatIsHandedIn(unittest.TestCase):
    def test_right_calls_change_nothing(self):
        forest = forest_of(TOWN)
        reasons = reasons_of(TOWN)
        kept = [(word, list(numbers)) for word, numbers in reasons]
        is_shown(TOWN, forest, reasons)
        number_of(TOWN, forest)
        marks_of(TOWN, forest)
        lots_of(TOWN, forest)
        self.assertEqual((forest, reasons), (forest_of(TOWN), kept))


if __name__ == "__main__":
    unittest.main()
