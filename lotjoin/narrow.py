"""The least greatest way between two houses, and the next best forest."""

from lotjoin.errors import NoHouse
from lotjoin.forest import forest_of
from lotjoin.roads import greatest_of, is_rising, least_of, lot_at, road_of, ways_out
from lotjoin.webs import is_within, need_web


def need_two(web, one, other):
    need_web(web)
    if not is_within(one, 0, web[0] - 1):
        raise NoHouse(0)
    if not is_within(other, 0, web[0] - 1) or one == other:
        raise NoHouse(1)


def greatest_between(web, forest, one, other):
    if other not in lot_at(web, forest, one):
        return None
    return greatest_of(web, road_of(web, forest, one, other))


def narrow_of(web, one, other):
    need_two(web, one, other)
    forest = forest_of(web)
    number = greatest_between(web, forest, one, other)
    if number is None:
        return None
    # No way between the two sides that the forest falls into without it is lesser, or the forest had taken that one.
    return (number, lot_at(web, [way for way in forest if way != number], one))


def is_narrow(web, one, other, number, houses):
    need_two(web, one, other)
    if not is_rising(houses, web[0]) or one not in houses or other in houses:
        return False
    greatest = greatest_between(web, forest_of(web), one, other)
    return greatest is not None and number == greatest == least_of(web, ways_out(web, houses))


def exchange_for(web, forest, number):
    way = web[1][number]
    gone = greatest_between(web, forest, way[0], way[1])
    return (way[2] - web[1][gone][2], gone, number)


def next_best(web):
    forest = forest_of(web)
    # Of all forests but the one, one that weighs least differs from it by a single exchange.
    others = [number for number in range(len(web[1])) if number not in forest]
    return min([exchange_for(web, forest, number) for number in others], default=None)
