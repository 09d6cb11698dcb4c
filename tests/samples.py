"""Webs and other things that several tests ask about."""

import itertools
import random

PAIRS = tuple(itertools.combinations(range(12), 2))

# Two lots by all ways (0 1 2 3 with rings, 4 5), a house alone (6), like prices.
TOWN = (7, ((1, 2, 5), (0, 1, 5), (0, 2, 5), (4, 5, 0), (2, 3, 10 ** 9), (0, 3, 7)))
FULL = (12, tuple((one, other, (one * 7 + other * 5) % 4) for one, other in PAIRS[:30]))

WEBS = (
    (1, ()),
    (2, ()),
    (12, ()),
    (2, ((0, 1, 0),)),
    (2, ((0, 1, 10 ** 9),)),
    (12, ((10, 11, 3), (0, 11, 3))),
    TOWN,
    FULL,
)


def nested(kind, depth, core):
    for _ in range(depth):
        core = kind((core,))
    return core


# Nothing in here is a web, a list of ways, or a number of a way.
ODD_THINGS = (
    None,
    True,
    False,
    "",
    "web",
    "0",
    "(1, ())",
    (),
    (0,),
    (1, 2),
    ("", ""),
    nested(tuple, 8, 1),
    nested(tuple, 7, ()),
    nested(list, 8, 1),
    nested(list, 7, (1, ())),
    nested(tuple, 6, (1, ())),
)


def some_webs(count):
    # Seeded, so that each run asks of the same webs.
    chance = random.Random(20261117)
    webs = []
    for _ in range(count):
        many = chance.randint(1, 12)
        pairs = list(itertools.combinations(range(many), 2))
        chance.shuffle(pairs)
        pairs = pairs[: chance.randint(0, min(30, len(pairs)))]
        most = chance.choice((0, 2, 9, 10 ** 9))
        webs.append((many, tuple((one, other, chance.randint(0, most)) for one, other in pairs)))
    return webs


def some_ways(web, count):
    chance = random.Random(len(web[1]) * 100 + web[0])
    numbers = list(range(len(web[1])))
    picks = [[], list(numbers), list(reversed(numbers))]
    for _ in range(count):
        picks.append(chance.sample(numbers, chance.randint(0, len(numbers))))
    return picks
