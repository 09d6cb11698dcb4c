"""Webs: what one is, and the order of its ways."""

from lotjoin.errors import NoWeb

MOST_HOUSES = 12
MOST_WAYS = 30
MOST_PRICE = 1000000000


def is_whole(thing):
    # To Python a truth is an int, too.
    return isinstance(thing, int) and not isinstance(thing, bool)


def is_within(thing, least, most):
    return is_whole(thing) and least <= thing <= most


def is_tuple_of(thing, size):
    return isinstance(thing, tuple) and len(thing) == size


def are_ends(many, one, other):
    # The other end is bounded by the one, so the one is looked at first.
    return is_within(one, 0, many - 1) and is_within(other, one + 1, many - 1)


def is_way(many, thing):
    if not is_tuple_of(thing, 3):
        return False
    return are_ends(many, thing[0], thing[1]) and is_within(thing[2], 0, MOST_PRICE)


def are_ways(many, thing):
    if not isinstance(thing, tuple) or len(thing) > MOST_WAYS:
        return False
    if not all([is_way(many, way) for way in thing]):
        return False
    # Only now is each end a number: lists could not be put into a set.
    return len(set([way[:2] for way in thing])) == len(thing)


def is_web(thing):
    if not is_tuple_of(thing, 2):
        return False
    return is_within(thing[0], 1, MOST_HOUSES) and are_ways(thing[0], thing[1])


def need_web(web):
    if not is_web(web):
        raise NoWeb("what is handed in is no web")


def rank_of(way):
    return (way[2], way[0], way[1])


def order_of(web):
    need_web(web)
    ways = web[1]
    return sorted(range(len(ways)), key=lambda number: rank_of(ways[number]))
