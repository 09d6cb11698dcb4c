"""What the tests reckon for themselves, apart from the package."""

import itertools
import re

NUMBER = r"(0|[1-9][0-9]{0,9})"


def lots_by_walks(web, ways):
    roads = {house: [] for house in range(web[0])}
    for number in ways:
        one, other, _ = web[1][number]
        roads[one].append(other)
        roads[other].append(one)
    lots, seen = [], set()
    for house in range(web[0]):
        if house in seen:
            continue
        lot, ahead = {house}, [house]
        while ahead:
            for near in roads[ahead.pop()]:
                if near not in lot:
                    lot.add(near)
                    ahead.append(near)
        seen |= lot
        lots.append(sorted(lot))
    return lots


def rank(web, number):
    one, other, price = web[1][number]
    return (price, one, other)


def outs(web, houses):
    return [number for number, way in enumerate(web[1]) if (way[0] in houses) + (way[1] in houses) == 1]


def rises(numbers, many):
    return list(numbers) == [number for number in range(many) if number in numbers]


def lists_of(many):
    """Every rising list of numbers below many."""
    sizes = range(many + 1)
    return [list(picked) for size in sizes for picked in itertools.combinations(range(many), size)]


def goes_round(web, ways):
    """Whether a walk from an end of one way comes back to it over all of them, with never a choice."""
    if len(ways) < 3:
        return False
    left = list(ways)
    start, here, _ = web[1][left.pop()]
    while here != start:
        near = [number for number in left if here in web[1][number][:2]]
        if len(near) != 1:
            return False
        left.remove(near[0])
        here = sum(web[1][near[0]][:2]) - here
    return not left


def forests(web):
    lots = lots_by_walks(web, range(len(web[1])))
    found = itertools.combinations(range(len(web[1])), web[0] - len(lots))
    # So many ways with these lots have no ring: each has to join two lots.
    return [list(ways) for ways in found if lots_by_walks(web, ways) == lots]


def weight(web, ways):
    return sum(web[1][number][2] for number in ways)


def greedy(web):
    put_in = []
    for number in sorted(range(len(web[1])), key=lambda number: rank(web, number)):
        one, other, _ = web[1][number]
        if not any(one in lot and other in lot for lot in lots_by_walks(web, put_in)):
            put_in.append(number)
    return sorted(put_in)


def greedy_but(web, closed):
    """The forest of the ways that are not closed, by their numbers among all."""
    numbers = [number for number in range(len(web[1])) if number not in closed]
    return [numbers[place] for place in greedy((web[0], tuple(web[1][number] for number in numbers)))]


def is_right(web, number, reason):
    word, numbers = reason
    if word == "cut":
        out = outs(web, numbers)
        return rises(numbers, web[0]) and number in out and all(rank(web, number) <= rank(web, way) for way in out)
    if word == "ring":
        if not rises(numbers, len(web[1])) or number in numbers:
            return False
        lesser = all(rank(web, way) < rank(web, number) for way in numbers)
        return lesser and goes_round(web, numbers + [number])
    return False


def shows(web, forest, reasons):
    if not rises(forest, len(web[1])) or len(reasons) != len(web[1]):
        return False
    words = ["cut" if number in forest else "ring" for number in range(len(web[1]))]
    if [word for word, _ in reasons] != words:
        return False
    return all(is_right(web, number, reason) for number, reason in enumerate(reasons))


def marks_by_lots(web, ways):
    """The marks and counts by whole lots with their marks, or the place of the first that joins none."""
    lots = {house: [house] for house in range(web[0])}
    taken = [0] * web[0]
    for place, number in enumerate(ways):
        one, other, _ = web[1][number]
        here = next(mark for mark, lot in lots.items() if one in lot)
        there = next(mark for mark, lot in lots.items() if other in lot)
        if here == there:
            return place
        kept, gone = min(here, there), max(here, there)
        if len(lots[gone]) > len(lots[kept]):
            kept, gone = gone, kept
        for house in lots[gone]:
            taken[house] += 1
        lots[kept] = lots[kept] + lots.pop(gone)
    marks = [next(mark for mark, lot in lots.items() if house in lot) for house in range(web[0])]
    return (marks, taken)


class SlowNight:
    """A night by the words of points 13 to 16: lots walked anew and all marks kept."""

    def __init__(self, web):
        self.web, self.put_in, self.known, self.whole, self.searches = web, [], set(), set(), []

    def lot(self, house):
        return next(lot for lot in lots_by_walks(self.web, self.put_in) if house in lot)

    def wake(self, house):
        if house in self.whole:
            self.searches.append(None)
            return (None, 0)
        lot, letters = self.lot(house), 0
        for near in lot:
            letters += 0 if near == house else 2
            for number, way in enumerate(self.web[1]):
                if near in way[:2] and number not in self.put_in and number not in self.known:
                    letters += 2
        for number, way in enumerate(self.web[1]):
            if set(way[:2]) <= set(lot) and number not in self.put_in:
                self.known.add(number)
        out = sorted(outs(self.web, lot), key=lambda number: rank(self.web, number))
        self.searches.append((lot, out[:1]))
        return (None, letters)

    def end(self, number):
        (lot, found), self.searches[number] = self.searches[number], None
        if not found:
            letters = 0 if lot[0] in self.whole else len(lot) - 1
            self.whole |= set(lot)
            return (None, letters)
        if found[0] in self.put_in:
            return (None, 0)
        ahead, _ = marks_by_lots(self.web, self.put_in)
        self.put_in += found
        behind, _ = marks_by_lots(self.web, self.put_in)
        return (found[0], 1 + sum(one != other for one, other in zip(ahead, behind)))

    def tell(self, event):
        return self.wake(event[1]) if event[0] == "wake" else self.end(event[1])

    def stand(self):
        return (sorted(self.put_in), sorted(self.known), sorted(self.whole))

    def under(self):
        return [number for number, search in enumerate(self.searches) if search]


def slow_night(web, events):
    night = SlowNight(web)
    return [night.tell(event) for event in events], night.stand()


def with_price(web, number, price):
    ways = list(web[1])
    ways[number] = (*ways[number][:2], price)
    return (web[0], tuple(ways))


class SlowKeeper:
    """All stands there were, the forest reckoned anew at each."""

    def __init__(self, web):
        self.stands = [(web, ())]

    def web(self):
        return self.stands[-1][0]

    def closed(self):
        return sorted(self.stands[-1][1])

    def forest(self):
        return greedy_but(*self.stands[-1])

    def weight(self):
        return weight(self.web(), self.forest())

    def told(self, ahead):
        gone = [number for number in ahead if number not in self.forest()]
        come = [number for number in self.forest() if number not in ahead]
        assert len(gone) <= 1 and len(come) <= 1
        return (gone[0] if gone else None, come[0] if come else None)

    def go(self, web, closed):
        ahead = self.forest()
        self.stands.append((web, closed))
        return self.told(ahead)

    def price(self, number, price):
        return self.go(with_price(self.web(), number, price), self.stands[-1][1])

    def close(self, number):
        return self.go(self.web(), self.stands[-1][1] + (number,))

    def free(self, number):
        return self.go(self.web(), tuple(way for way in self.stands[-1][1] if way != number))

    def back(self):
        ahead = self.forest()
        self.stands.pop()
        return self.told(ahead)


def web_by_form(text):
    """The web that is written, None where there is none: by the form of the whole text, then by what a web is."""
    if not re.fullmatch(f"{NUMBER}(,{NUMBER}-{NUMBER}:{NUMBER})*", text):
        return None
    many, *rest = map(int, re.findall("[0-9]+", text))
    ways = tuple(zip(rest[::3], rest[1::3], rest[2::3]))
    if not 1 <= many <= 12 or len(ways) > 30 or len({way[:2] for way in ways}) < len(ways):
        return None
    right = all(one < other < many and price <= 10 ** 9 for one, other, price in ways)
    return (many, ways) if right else None
