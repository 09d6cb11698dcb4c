"""Some ways of a web: their lots and their weight."""

from lotjoin.errors import NoWay
from lotjoin.webs import is_within, need_web


def need_ways(web, ways):
    need_web(web)
    if not isinstance(ways, list):
        raise NoWay(0)
    last = len(web[1]) - 1
    seen = {}
    for place, number in enumerate(ways):
        # Bounds go first: a list could not be looked up, and True would be found as 1.
        if not is_within(number, 0, last) or number in seen:
            raise NoWay(place)
        seen[number] = True


def joined(firsts, one, other):
    # The lesser first house stays, so that a lot goes on being named by its first.
    gone = max(firsts[one], firsts[other])
    kept = min(firsts[one], firsts[other])
    return [kept if first == gone else first for first in firsts]


def firsts_of(web, ways):
    firsts = list(range(web[0]))
    for number in ways:
        way = web[1][number]
        firsts = joined(firsts, way[0], way[1])
    return firsts


def lots_of(web, ways):
    need_ways(web, ways)
    lots = {}
    # Houses come rising, so each lot begins when its first house comes.
    for house, first in enumerate(firsts_of(web, ways)):
        lots.setdefault(first, []).append(house)
    return list(lots.values())


def weight_of(web, ways):
    need_ways(web, ways)
    return sum([web[1][number][2] for number in ways])
