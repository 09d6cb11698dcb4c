"""The forest of a web, and the reasons that show it."""

from lotjoin.lots import firsts_of, joined
from lotjoin.roads import greatest_of, is_ring, is_rising, least_of, lot_at, road_of, ways_out
from lotjoin.webs import is_tuple_of, need_web, order_of


def forest_of(web):
    order = order_of(web)
    forest = []
    firsts = firsts_of(web, forest)
    for number in order:
        way = web[1][number]
        if firsts[way[0]] != firsts[way[1]]:
            forest.append(number)
            firsts = joined(firsts, way[0], way[1])
    return sorted(forest)


def cut_of(web, number):
    # No lesser way leads out of what hangs together by all lesser ways.
    order = order_of(web)
    lesser = order[:order.index(number)]
    return lot_at(web, lesser, web[1][number][0])


def ring_of(web, forest, number):
    # The forest left this way out, so lesser ways of its own already joined both ends.
    way = web[1][number]
    return road_of(web, forest, way[0], way[1])


def reason_of(web, forest, number):
    if number in forest:
        return ("cut", cut_of(web, number))
    return ("ring", ring_of(web, forest, number))


def reasons_of(web):
    forest = forest_of(web)
    return [reason_of(web, forest, number) for number in range(len(web[1]))]


def is_right_cut(web, number, houses):
    return is_rising(houses, web[0]) and least_of(web, ways_out(web, houses)) == number


def is_right_ring(web, number, ways):
    if not is_rising(ways, len(web[1])) or number in ways:
        return False
    ring = ways + [number]
    return is_ring(web, ring) and greatest_of(web, ring) == number


def is_right(web, forest, number, reason):
    if not is_tuple_of(reason, 2):
        return False
    if number in forest:
        return reason[0] == "cut" and is_right_cut(web, number, reason[1])
    return reason[0] == "ring" and is_right_ring(web, number, reason[1])


def is_shown(web, forest, reasons):
    need_web(web)
    if not is_rising(forest, len(web[1])) or len(reasons) != len(web[1]):
        return False
    return all([is_right(web, forest, number, reason) for number, reason in enumerate(reasons)])
