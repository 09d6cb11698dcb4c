"""The forest kept while prices change and ways are closed and freed."""

from lotjoin.errors import Closed, Free, NoPrice, NoWay, Nothing
from lotjoin.forest import forest_of
from lotjoin.lots import weight_of
from lotjoin.webs import MOST_PRICE, is_within, need_web


def ways_but(web, closed):
    return [number for number in range(len(web[1])) if number not in closed]


def web_of(web, numbers):
    # Its ways are numbered anew, by their places among these numbers.
    return (web[0], tuple([web[1][number] for number in numbers]))


def priced(web, number, price):
    way = web[1][number]
    return (web[0], web[1][:number] + ((way[0], way[1], price),) + web[1][number + 1:])


def first_missing(numbers, others):
    missing = [number for number in numbers if number not in others]
    return missing[0] if len(missing) > 0 else None


def exchange_of(ahead, behind):
    # One change never moves more than one way out and one in.
    return (first_missing(ahead, behind), first_missing(behind, ahead))


class Keeper:
    def __init__(self, web):
        need_web(web)
        self.town = web
        self.shut = []
        self.past = []

    def web(self):
        return self.town

    def closed(self):
        return list(self.shut)

    def forest(self):
        numbers = ways_but(self.town, self.shut)
        return [numbers[place] for place in forest_of(web_of(self.town, numbers))]

    def weight(self):
        return weight_of(self.town, self.forest())

    def price(self, number, price):
        self.need_way(number)
        if not is_within(price, 0, MOST_PRICE):
            raise NoPrice("a price is a whole number from 0 to 10 ** 9")
        return self.changed(priced(self.town, number, price), self.shut)

    def close(self, number):
        self.need_way(number)
        if number in self.shut:
            raise Closed("the way is closed already")
        return self.changed(self.town, sorted(self.shut + [number]))

    def free(self, number):
        self.need_way(number)
        if number not in self.shut:
            raise Free("the way is not closed")
        return self.changed(self.town, [way for way in self.shut if way != number])

    def back(self):
        if len(self.past) == 0:
            raise Nothing("no change stands")
        last = self.past.pop()
        return self.set_to(last[0], last[1])

    def need_way(self, number):
        if not is_within(number, 0, len(self.town[1]) - 1):
            raise NoWay(0)

    def changed(self, web, shut):
        self.past.append((self.town, self.shut))
        return self.set_to(web, shut)

    def set_to(self, web, shut):
        ahead = self.forest()
        self.town = web
        self.shut = shut
        return exchange_of(ahead, self.forest())
