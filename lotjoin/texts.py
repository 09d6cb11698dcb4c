"""Webs and lists as texts."""

from lotjoin.errors import NoText
from lotjoin.webs import is_web, need_web

FIGURES = "0123456789"
MOST_FIGURES = 10


def way_text(way):
    one = way[0]
    other = way[1]
    price = way[2]
    return f"{one}-{other}:{price}"


def show_web(web):
    need_web(web)
    return ",".join([str(web[0])] + [way_text(way) for way in web[1]])


def show_list(numbers):
    if len(numbers) == 0:
        return "-"
    return " ".join([str(number) for number in numbers])


def need_text(thing):
    if not isinstance(thing, str):
        raise NoText("what is handed in is no text")


def is_number_text(text):
    if not 1 <= len(text) <= MOST_FIGURES or not all([sign in FIGURES for sign in text]):
        return False
    return text == "0" or text[0] != "0"


def read_number(text):
    if not is_number_text(text):
        raise NoText("a number has one to ten figures, and no 0 ahead of others")
    return int(text)


def read_way(text):
    by_dash = text.partition("-")
    by_colon = by_dash[2].partition(":")
    return (read_number(by_dash[0]), read_number(by_colon[0]), read_number(by_colon[2]))


def read_web(text):
    need_text(text)
    parts = text.split(",")
    web = (read_number(parts[0]), tuple([read_way(part) for part in parts[1:]]))
    if not is_web(web):
        raise NoText("what is written is no web")
    return web


def read_list(text):
    need_text(text)
    if text == "-":
        return []
    return [read_number(part) for part in text.split(" ")]
