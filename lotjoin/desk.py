"""The desk: rows of text are told to a keeper and its night, and answered with texts."""

from lotjoin.counts import how_many
from lotjoin.errors import NoLine, NoText
from lotjoin.keeper import Keeper, ways_but, web_of
from lotjoin.lots import lots_of
from lotjoin.narrow import narrow_of, next_best
from lotjoin.texts import read_number, read_web, show_list, show_web
from lotjoin.wakings import Night

# How many numbers stand behind each word; behind lots there are one or more.
NUMBERS_BEHIND = {
    "price": 2,
    "close": 1,
    "free": 1,
    "back": 0,
    "web": 0,
    "closed": 0,
    "forest": 0,
    "weight": 0,
    "count": 0,
    "narrow": 2,
    "next": 0,
    "night": 0,
    "wake": 1,
    "end": 1,
    "under": 0,
    "whole": 0,
}
CHANGES = ("price", "close", "free", "back")
OF_NIGHTS = ("wake", "end", "under", "whole")
OF_UNCLOSED = ("count", "narrow", "next")


def words_in(row):
    if not isinstance(row, str):
        raise NoLine("a row is a text")
    return row.split(" ")


def web_in(text):
    try:
        return read_web(text)
    except NoText:
        raise NoLine("what stands behind web is no web's text") from None


def number_in(word):
    try:
        return read_number(word)
    except NoText:
        raise NoLine("what stands behind the row's word is no number") from None


def numbers_in(words):
    numbers = [number_in(word) for word in words[1:]]
    if words[0] == "lots" and len(numbers) > 0:
        return numbers
    if NUMBERS_BEHIND.get(words[0]) != len(numbers):
        raise NoLine("there is no such row")
    return numbers


def number_or_dash(number):
    return "-" if number is None else str(number)


def pair_text(one, other):
    return " ".join([number_or_dash(one), number_or_dash(other)])


def houses_text(lot):
    return ",".join([str(house) for house in lot])


def lots_text(web, numbers):
    return " ".join([houses_text(lot) for lot in lots_of(web, numbers)])


def narrow_text(web, unclosed, houses):
    told = narrow_of(web, houses[0], houses[1])
    return "none" if told is None else str(unclosed[told[0]])


def next_text(web, unclosed):
    told = next_best(web)
    return "none" if told is None else show_list([told[0], unclosed[told[1]], unclosed[told[2]]])


def unclosed_of(keeper):
    return ways_but(keeper.web(), keeper.closed())


def text_of_unclosed(keeper, word, numbers):
    unclosed = unclosed_of(keeper)
    web = web_of(keeper.web(), unclosed)
    if word == "count":
        return str(how_many(web)[0])
    if word == "narrow":
        return narrow_text(web, unclosed, numbers)
    return next_text(web, unclosed)


def text_of_kept(keeper, word, numbers):
    if word == "lots":
        return lots_text(keeper.web(), numbers)
    if word == "web":
        return show_web(keeper.web())
    if word == "closed":
        return show_list(keeper.closed())
    if word == "forest":
        return show_list(keeper.forest())
    return str(keeper.weight())


def change_by(keeper, word, numbers):
    if word == "price":
        return keeper.price(numbers[0], numbers[1])
    if word == "close":
        return keeper.close(numbers[0])
    if word == "free":
        return keeper.free(numbers[0])
    return keeper.back()


def event_text(told, unclosed):
    # The night numbers its ways by their places among the open ones.
    number = None if told[0] is None else unclosed[told[0]]
    return pair_text(number, told[1])


class Desk:
    def __init__(self):
        self.keeper = None
        self.night = None

    def say(self, row):
        words = words_in(row)
        word = words[0]
        if word == "web" and len(words) == 2:
            return self.say_new_web(words[1])
        numbers = numbers_in(words)
        if self.keeper is None:
            raise NoLine("no web stands")
        if word in CHANGES:
            return self.say_change(word, numbers)
        if word == "night":
            return self.say_new_night()
        if word in OF_NIGHTS:
            return self.say_of_night(word, numbers)
        if word in OF_UNCLOSED:
            return text_of_unclosed(self.keeper, word, numbers)
        return text_of_kept(self.keeper, word, numbers)

    def say_new_web(self, text):
        self.keeper = Keeper(web_in(text))
        self.night = None
        return "ok"

    def say_change(self, word, numbers):
        told = change_by(self.keeper, word, numbers)
        self.night = None
        return pair_text(told[0], told[1])

    def say_new_night(self):
        self.night = Night(web_of(self.keeper.web(), unclosed_of(self.keeper)))
        return "ok"

    def say_of_night(self, word, numbers):
        if self.night is None:
            raise NoLine("no night stands")
        if word == "wake":
            return event_text(self.night.wake(numbers[0]), unclosed_of(self.keeper))
        if word == "end":
            return event_text(self.night.end(numbers[0]), unclosed_of(self.keeper))
        if word == "under":
            return show_list(self.night.under())
        return "yes" if len(self.night.stand()[2]) == self.keeper.web()[0] else "no"
