"""Forests counted and numbered."""

from lotjoin.errors import NoNumber
from lotjoin.lots import firsts_of
from lotjoin.roads import is_rising, leads_out
from lotjoin.webs import is_within, need_web


def all_ways(web):
    return list(range(len(web[1])))


def lots_many(web, ways):
    return len(set(firsts_of(web, ways)))


def entry_of(ties, one, other):
    # What the matrix-tree theorem counts by: the ties that lead out of a lot, less those between two.
    if one == other:
        return len([tie for tie in ties if leads_out(tie, [one])])
    return -ties.count((one, other)) - ties.count((other, one))


def row_of(ties, lots, one):
    return [entry_of(ties, one, other) for other in lots]


def cleared(row, first, divisor):
    # Bareiss's step: the division leaves nothing over, so all stays whole.
    return [(first[0] * there - row[0] * here) // divisor for here, there in zip(first[1:], row[1:])]


def determinant(rows):
    # Only of rows whose first places don't come to 0 on the way down.
    last = 1
    while len(rows) > 0:
        first = rows[0]
        rows = [cleared(row, first, last) for row in rows[1:]]
        last = first[0]
    return last


def forests_beyond(web, put_in, ways):
    # How often some of these ways join the lots of those put in, without a ring, as far as all of them do.
    firsts = firsts_of(web, put_in)
    joined_firsts = firsts_of(web, put_in + ways)
    ties = [(firsts[web[1][number][0]], firsts[web[1][number][1]]) for number in ways]
    # Of lots that these ways join one is left out: then no first place comes to 0.
    lots = [house for house in range(web[0]) if firsts[house] == house and joined_firsts[house] != house]
    return determinant([row_of(ties, lots, lot) for lot in lots])


def least_many(web):
    # Whatever forests of least weight choose below a price, it joins the same lots: so each price chooses by itself.
    many = 1
    lesser = []
    for price in sorted(set([way[2] for way in web[1]])):
        alike = [number for number, way in enumerate(web[1]) if way[2] == price]
        many = many * forests_beyond(web, lesser, alike)
        lesser = lesser + alike
    return many


def all_many(web):
    return forests_beyond(web, [], all_ways(web))


def how_many(web):
    need_web(web)
    return (all_many(web), least_many(web))


def joins(web, put_in, number):
    way = web[1][number]
    firsts = firsts_of(web, put_in)
    return firsts[way[0]] != firsts[way[1]]


def many_from(web, put_in, number):
    # How many forests have, of the ways up to this one, just those put in and itself.
    if not joins(web, put_in, number):
        return 0
    # Some forest has those put in and else only ways from this one on, so these still join all that can be joined.
    return forests_beyond(web, put_in + [number], all_ways(web)[number + 1:])


def forest_by(web, number):
    need_web(web)
    if not is_within(number, 0, all_many(web) - 1):
        raise NoNumber("there is no forest of this number")
    forest = []
    left = number
    # Of forests alike so far those with a way go ahead of all that have only later ones.
    for way in all_ways(web):
        many = many_from(web, forest, way)
        if left < many:
            forest.append(way)
        else:
            left = left - many
    return forest


def is_forest(web, forest):
    if not is_rising(forest, len(web[1])):
        return False
    lots = lots_many(web, all_ways(web))
    # So many ways leave so few lots only where none of them closes a ring.
    return len(forest) == web[0] - lots and lots_many(web, forest) == lots


def number_of(web, forest):
    need_web(web)
    if not is_forest(web, forest):
        return None
    number = 0
    for way in all_ways(web):
        if way not in forest:
            number = number + many_from(web, [chosen for chosen in forest if chosen < way], way)
    return number
