"""Webs and other things that several tests ask about."""

import itertools
import random

MOST = 10 ** 9
PAIRS = tuple(itertools.combinations(range(12), 2))

# Two lots by all ways (0 1 2 3 with rings, 4 5), a house alone (6), like prices.
TOWN = (7, ((1, 2, 5), (0, 1, 5), (0, 2, 5), (4, 5, 0), (2, 3, 10 ** 9), (0, 3, 7)))
FULL = (12, tuple((one, other, (one * 7 + other * 5) % 4) for one, other in PAIRS[:30]))

WEBS = (
    (1, ()),
    (2, ()),
    (12, ()),
    (2, ((0, 1, 0),)),
    (2, ((0, 1, 10 ** 9),)),
    (12, ((10, 11, 3), (0, 11, 3))),
    TOWN,
    FULL,
)


def nested(kind, depth, core):
    for _ in range(depth):
        core = kind((core,))
    return core


# Nothing in here is a web, a list of ways, or a number of a way.
ODD_THINGS = (
    None,
    True,
    False,
    "",
    "web",
    "0",
    "(1, ())",
    (),
    (0,),
    (1, 2),
    ("", ""),
    nested(tuple, 8, 1),
    nested(tuple, 7, ()),
    nested(list, 8, 1),
    nested(list, 7, (1, ())),
    nested(tuple, 6, (1, ())),
)


NO_WEBS = {
    "no house": (0, ()),
    "fewer than none": (-1, ()),
    "thirteen houses": (13, ()),
    "very many houses": (10 ** 30, ()),
    "thirty-one ways": (12, tuple((one, other, 1) for one, other in PAIRS[:31])),
    "all sixty-six ways": (12, tuple((one, other, 1) for one, other in PAIRS)),
    "price below 0": (2, ((0, 1, -1),)),
    "price above the most": (2, ((0, 1, MOST + 1),)),
    "price far below": (2, ((0, 1, -(10 ** 30)),)),
    "price far above": (2, ((0, 1, 10 ** 30),)),
    "price a text": (2, ((0, 1, "1"),)),
    "price None": (2, ((0, 1, None),)),
    "price a tuple": (2, ((0, 1, (1,)),)),
    "price a list": (2, ((0, 1, [1]),)),
    "ends alike": (3, ((1, 1, 5),)),
    "ends alike at 0": (1, ((0, 0, 5),)),
    "ends turned about": (3, ((2, 1, 5),)),
    "one below 0": (3, ((-1, 1, 5),)),
    "both below 0": (3, ((-2, -1, 5),)),
    "other no house": (3, ((0, 3, 5),)),
    "both no houses": (3, ((3, 4, 5),)),
    "a house that twelve have, three have not": (3, ((0, 11, 5),)),
    "a way and one house": (1, ((0, 1, 5),)),
    "end a text": (3, (("0", 1, 5),)),
    "other end a text": (3, ((0, "1", 5),)),
    "end None": (3, ((None, 1, 5),)),
    "other end None": (3, ((0, None, 5),)),
    "end a list": (3, (([0], 1, 5),)),
    "other end a list": (3, ((0, [1], 5),)),
    "both ends alike, unlike prices": (3, ((0, 1, 5), (1, 2, 5), (0, 1, 6))),
    "both ends alike, like prices": (3, ((0, 1, 5), (0, 1, 5))),
    "a list for the web": [2, ((0, 1, 5),)],
    "a list for the ways": (2, [(0, 1, 5)]),
    "an empty list for the ways": (2, []),
    "a list for a way": (2, ([0, 1, 5],)),
    "a list for the last way": (3, ((0, 1, 5), [1, 2, 5])),
    "nothing in the web": (),
    "a part fewer": (2,),
    "a part more": (2, (), ()),
    "a way's part fewer": (2, ((0, 1),)),
    "a way's part more": (2, ((0, 1, 5, 5),)),
    "a way of nothing": (2, ((),)),
    "ways not in a tuple": (2, (0, 1, 5)),
    "parts turned about": (((0, 1, 5),), 2),
    "a truth for many": (True, ()),
    "an untruth for many": (False, ()),
    "a truth for one": (3, ((True, 2, 5),)),
    "an untruth for one": (3, ((False, 2, 5),)),
    "a truth for other": (3, ((0, True, 5),)),
    "a truth for price": (3, ((0, 1, True),)),
    "an untruth for price": (3, ((0, 1, False),)),
    "a truth for ways": (3, True),
    "a truth for a way": (3, (True,)),
    "a text for many": ("2", ()),
    "a text for ways": (2, ""),
    "a text of three signs for a way": (2, ("011",)),
    "a text of two signs for the web": "2(",
    "None for many": (None, ()),
    "None for ways": (2, None),
    "None for a way": (2, (None,)),
    "a wrong way behind right ones": (3, ((0, 1, 5), (0, 2, 5), (1, 2, -5))),
    "a wrong way ahead of right ones": (3, ((0, 1, -5), (0, 2, 5), (1, 2, 5))),
    "deep tuples for a way": (2, (nested(tuple, 6, 1),)),
    "deep lists for an end": (2, ((nested(list, 5, 1), 1, 1),)),
    "deep lists for both ends": (2, ((nested(list, 5, 1), nested(list, 5, 1), 1),)),
}


# Of TOWN, which has the ways 0 to 5: a list, and the place that is refused.
REFUSED_WAYS = (
    ([-1], 0),
    ([6], 0),
    ([0, 1, 2, 3, 4, 5, 6], 6),
    ([0, -1, 2], 1),
    ([5, 6, 7], 1),
    ([10 ** 30], 0),
    ([0, 1, 2 ** 64], 2),
    ([-(10 ** 30)], 0),
    ([True], 0),
    ([False], 0),
    ([2, True], 1),
    ([2, 3, False], 2),
    ([True, 1], 0),
    ([1, True], 1),
    ([0, False], 1),
    (["0"], 0),
    ([0, "1", 2], 1),
    ([0, ""], 1),
    ([[]], 0),
    ([0, [1]], 1),
    ([0, 1, (2,)], 2),
    ([()], 0),
    ([None], 0),
    ([4, 3, None], 2),
    ([nested(list, 7, 1)], 0),
    ([0, nested(tuple, 7, 1)], 1),
    ([0, 0], 1),
    ([1, 2, 1], 2),
    ([5, 4, 3, 2, 1, 0, 5], 6),
    # Two wrong things at once: the first of them.
    ([0, 6, 0], 1),
    ([0, 0, 6], 1),
    ([None, True], 0),
    ([3, 3, 3], 1),
    ([1, 2, 2, 1], 2),
    ([2, [], []], 1),
    ([2, None, 2], 1),
)

NO_LISTS = (None, True, False, 0, 3, -1, 10 ** 30, "", "0", "abc", (), (0,), (0, 1), (6,), ((),), ([0],))


def web_by(chance, most_houses, most_ways):
    many = chance.randint(1, most_houses)
    pairs = list(itertools.combinations(range(many), 2))
    chance.shuffle(pairs)
    pairs = pairs[: chance.randint(0, min(most_ways, len(pairs)))]
    most = chance.choice((0, 2, 9, MOST))
    return (many, tuple((one, other, chance.randint(0, most)) for one, other in pairs))


def some_webs(count):
    # Seeded, so that each run asks of the same webs.
    chance = random.Random(20261117)
    return [web_by(chance, 12, 30) for _ in range(count)]


def small_webs(count):
    # All prices of 1 and 2 on the full web of four houses, its ways in no order; then some of up to five houses.
    pairs = ((2, 3), (0, 2), (1, 3), (0, 1), (1, 2), (0, 3))
    webs = []
    for prices in itertools.product((1, 2), repeat=6):
        webs.append((4, tuple((*ends, price) for ends, price in zip(pairs, prices))))
    chance = random.Random(5)
    return webs + [web_by(chance, 5, 8) for _ in range(count)]


def some_ways(web, count):
    chance = random.Random(len(web[1]) * 100 + web[0])
    numbers = list(range(len(web[1])))
    picks = [[], list(numbers), list(reversed(numbers))]
    for _ in range(count):
        picks.append(chance.sample(numbers, chance.randint(0, len(numbers))))
    return picks
