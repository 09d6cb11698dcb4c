"""What the tests reckon for themselves, apart from the package."""

import itertools


def lots_by_walks(web, ways):
    roads = {house: [] for house in range(web[0])}
    for number in ways:
        one, other, _ = web[1][number]
        roads[one].append(other)
        roads[other].append(one)
    lots, seen = [], set()
    for house in range(web[0]):
        if house in seen:
            continue
        lot, ahead = {house}, [house]
        while ahead:
            for near in roads[ahead.pop()]:
                if near not in lot:
                    lot.add(near)
                    ahead.append(near)
        seen |= lot
        lots.append(sorted(lot))
    return lots


def rank(web, number):
    one, other, price = web[1][number]
    return (price, one, other)


def outs(web, houses):
    return [number for number, way in enumerate(web[1]) if (way[0] in houses) + (way[1] in houses) == 1]


def rises(numbers, many):
    return list(numbers) == [number for number in range(many) if number in numbers]


def lists_of(many):
    """Every rising list of numbers below many."""
    sizes = range(many + 1)
    return [list(picked) for size in sizes for picked in itertools.combinations(range(many), size)]


def goes_round(web, ways):
    """Whether a walk from an end of one way comes back to it over all of them, with never a choice."""
    if len(ways) < 3:
        return False
    left = list(ways)
    start, here, _ = web[1][left.pop()]
    while here != start:
        near = [number for number in left if here in web[1][number][:2]]
        if len(near) != 1:
            return False
        left.remove(near[0])
        here = sum(web[1][near[0]][:2]) - here
    return not left


def forests(web):
    lots = lots_by_walks(web, range(len(web[1])))
    found = itertools.combinations(range(len(web[1])), web[0] - len(lots))
    # So many ways with these lots have no ring: each has to join two lots.
    return [list(ways) for ways in found if lots_by_walks(web, ways) == lots]


def weight(web, ways):
    return sum(web[1][number][2] for number in ways)


def greedy(web):
    put_in = []
    for number in sorted(range(len(web[1])), key=lambda number: rank(web, number)):
        one, other, _ = web[1][number]
        if not any(one in lot and other in lot for lot in lots_by_walks(web, put_in)):
            put_in.append(number)
    return sorted(put_in)


def is_right(web, number, reason):
    word, numbers = reason
    if word == "cut":
        out = outs(web, numbers)
        return rises(numbers, web[0]) and number in out and all(rank(web, number) <= rank(web, way) for way in out)
    if word == "ring":
        if not rises(numbers, len(web[1])) or number in numbers:
            return False
        lesser = all(rank(web, way) < rank(web, number) for way in numbers)
        return lesser and goes_round(web, numbers + [number])
    return False


def shows(web, forest, reasons):
    if not rises(forest, len(web[1])) or len(reasons) != len(web[1]):
        return False
    words = ["cut" if number in forest else "ring" for number in range(len(web[1]))]
    if [word for word, _ in reasons] != words:
        return False
    return all(is_right(web, number, reason) for number, reason in enumerate(reasons))
