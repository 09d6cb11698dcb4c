"""What leads out of houses, around them and between them."""

from lotjoin.lots import firsts_of
from lotjoin.webs import is_within, rank_of


def is_rising(thing, many):
    if not isinstance(thing, list):
        return False
    least = 0
    for number in thing:
        if not is_within(number, least, many - 1):
            return False
        least = number + 1
    return True


def least_of(web, ways):
    return min(ways, key=lambda number: rank_of(web[1][number]), default=None)


def greatest_of(web, ways):
    return max(ways, key=lambda number: rank_of(web[1][number]), default=None)


def leads_out(way, houses):
    return (way[0] in houses) != (way[1] in houses)


def ways_out(web, houses):
    return [number for number, way in enumerate(web[1]) if leads_out(way, houses)]


def lot_at(web, ways, house):
    firsts = firsts_of(web, ways)
    return [near for near, first in enumerate(firsts) if first == firsts[house]]


def ends_of(web, ways):
    return [web[1][number][0] for number in ways] + [web[1][number][1] for number in ways]


def is_ring(web, ways):
    # No two ways of a web have both ends alike, so one or two never give each end two.
    ends = ends_of(web, ways)
    if not all([ends.count(house) == 2 for house in ends]):
        return False
    firsts = firsts_of(web, ways)
    return len(set([firsts[house] for house in ends])) == 1


def parts(web, ways, gone, one, other):
    firsts = firsts_of(web, [number for number in ways if number != gone])
    return firsts[one] != firsts[other]


def road_of(web, ways, one, other):
    # Ways without a ring leave but one road: just its own ways part the two by being left out.
    return [number for number in ways if parts(web, ways, number, one, other)]
