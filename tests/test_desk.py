import random
import re
import unittest

from lotjoin import errors
from lotjoin.desk import Desk
from lotjoin.texts import show_web
from reckon import NUMBER, SlowKeeper, SlowNight, forests, greedy, lots_by_walks, rank, web_by_form, weight
from samples import FULL, ODD_THINGS, TOWN, WEBS, small_webs, some_webs

TOWN_TEXT = "7,1-2:5,0-1:5,0-2:5,4-5:0,2-3:1000000000,0-3:7"
TRIO_TEXT = "3,0-1:1,1-2:2,0-2:3"
FORMS = {"price": 2, "close": 1, "free": 1, "back": 0, "web": 0, "closed": 0, "forest": 0, "weight": 0, "count": 0,
         "narrow": 2, "next": 0, "night": 0, "wake": 1, "end": 1, "under": 0, "whole": 0}
OF_NIGHTS = ("wake 0", "end 0", "under", "whole")
ROWS = ("price 0 1", "close 0", "free 0", "back", "web", "closed", "forest", "weight", "count", "lots 0", "narrow 0 1",
        "next", "night") + OF_NIGHTS


class Refused(Exception):
    pass


def shown(number):
    return "-" if number is None else str(number)


def as_list(numbers):
    return " ".join(map(str, numbers)) or "-"


class SlowDesk:
    """A desk by the words of point 25; where any may be told it tells what is to be looked at."""

    def __init__(self):
        self.keeper = self.night = None

    def say(self, row):
        web = re.fullmatch("web (.*)", row, re.DOTALL)
        if web:
            return self.new_web(web_by_form(web[1]))
        words = re.fullmatch(f"([a-z]+)((?: {NUMBER})*)", row)
        if not words:
            raise Refused("NoLine")
        word, numbers = words[1], [int(number) for number in words[2].split()]
        wrong = not numbers if word == "lots" else FORMS.get(word) != len(numbers)
        if wrong or self.keeper is None or (word in ("wake", "end", "under", "whole") and self.night is None):
            raise Refused("NoLine")
        return getattr(self, "of_" + word)(*numbers)

    def new_web(self, web):
        if web is None:
            raise Refused("NoLine")
        self.keeper, self.night = SlowKeeper(web), None
        return "ok"

    def numbers(self):
        return [number for number in range(len(self.keeper.web()[1])) if number not in self.keeper.closed()]

    def unclosed(self):
        return (self.keeper.web()[0], tuple(self.keeper.web()[1][number] for number in self.numbers()))

    def need_way(self, number):
        if number >= len(self.keeper.web()[1]):
            raise Refused("NoWay", 0)

    def changed(self, told):
        self.night = None
        return " ".join(map(shown, told))

    def of_price(self, number, price):
        self.need_way(number)
        if price > 10 ** 9:
            raise Refused("NoPrice")
        return self.changed(self.keeper.price(number, price))

    def of_close(self, number):
        self.need_way(number)
        if number in self.keeper.closed():
            raise Refused("Closed")
        return self.changed(self.keeper.close(number))

    def of_free(self, number):
        self.need_way(number)
        if number not in self.keeper.closed():
            raise Refused("Free")
        return self.changed(self.keeper.free(number))

    def of_back(self):
        if len(self.keeper.stands) == 1:
            raise Refused("Nothing")
        return self.changed(self.keeper.back())

    def of_web(self):
        many, ways = self.keeper.web()
        return ",".join([str(many)] + ["%d-%d:%d" % way for way in ways])

    def of_closed(self):
        return as_list(self.keeper.closed())

    def of_forest(self):
        return as_list(self.keeper.forest())

    def of_weight(self):
        return str(self.keeper.weight())

    def of_count(self):
        return str(len(forests(self.unclosed())))

    def of_lots(self, *numbers):
        for place, number in enumerate(numbers):
            if number >= len(self.keeper.web()[1]) or number in numbers[:place]:
                raise Refused("NoWay", place)
        return " ".join(",".join(map(str, lot)) for lot in lots_by_walks(self.keeper.web(), numbers))

    def of_narrow(self, one, other):
        many = self.keeper.web()[0]
        if one >= many:
            raise Refused("NoHouse", 0)
        if other >= many or one == other:
            raise Refused("NoHouse", 1)
        # The way with which the two come to hang together, where from the least on all are put in.
        web, put_in = self.unclosed(), []
        for place in sorted(range(len(web[1])), key=lambda number: rank(web, number)):
            put_in.append(place)
            if any(one in lot and other in lot for lot in lots_by_walks(web, put_in)):
                return str(self.numbers()[place])
        return "none"

    def of_next(self):
        web = self.unclosed()
        least = [weight(web, ways) for ways in forests(web) if ways != greedy(web)]
        return ("next", min(least) if least else None)

    def of_night(self):
        self.night = SlowNight(self.unclosed())
        return "ok"

    def of_wake(self, house):
        if house >= self.keeper.web()[0]:
            raise Refused("NoHouse", 0)
        return "- " + str(self.night.wake(house)[1])

    def of_end(self, number):
        if number not in self.night.under():
            raise Refused("NoStep", 0)
        way, letters = self.night.end(number)
        return f"{shown(None if way is None else self.numbers()[way])} {letters}"

    def of_under(self):
        return as_list(self.night.under())

    def of_whole(self):
        return "yes" if len(self.night.whole) == self.keeper.web()[0] else "no"


def random_row(chance, slow):
    """A row whose numbers mostly keep to the web, or a little beyond."""
    many, ways = (slow.keeper.web()[0], len(slow.keeper.web()[1])) if slow.keeper else (3, 3)
    way, house = chance.randint(0, ways), chance.randint(0, many)
    other = chance.randint(0, many)
    search = chance.choice(slow.night.under() + [chance.randint(0, 9)] if slow.night else [0])
    price = chance.choice((0, 1, 2, 7, 10 ** 9, 10 ** 9 + 1, 9999999999))
    some = " ".join(str(chance.randint(0, ways)) for _ in range(chance.randint(1, 3)))
    rows = [f"price {way} {price}", f"close {way}", f"free {way}", "back", "web", "closed", "forest", "weight", "count",
            f"lots {some}", f"narrow {house} {other}", "next"]
    night = ["night"] + [f"wake {house}", f"end {search}"] * 6 + ["under", "whole"] * 2
    return chance.choice(rows + night * 2)


class Told(unittest.TestCase):
    def refused(self, desk, row, name, place=None):
        with self.subTest(row=row):
            with self.assertRaises(errors.LotError) as caught:
                desk.say(row)
            self.assertIs(type(caught.exception), getattr(errors, name))
            if place is not None:
                self.assertEqual((caught.exception.place, type(caught.exception.place)), (place, int))

    def says(self, desk, *pairs):
        for row, right in pairs:
            with self.subTest(row=row):
                told = desk.say(row)
                self.assertIs(type(told), str)
                self.assertEqual(told, right)

    def check_next(self, slow, told, least):
        if least is None:
            self.assertEqual(told, "none")
            return
        self.assertRegex(told, rf"\A{NUMBER} {NUMBER} {NUMBER}\Z")
        more, gone, come = map(int, told.split(" "))
        numbers, web = slow.numbers(), slow.unclosed()
        self.assertIn(gone, slow.keeper.forest())
        left = sorted(numbers.index(number) for number in slow.keeper.forest() + [come] if number != gone)
        self.assertIn(left, forests(web))
        self.assertEqual((weight(web, left), weight(web, left) - slow.keeper.weight()), (least, more))

    def both(self, desk, slow, row):
        try:
            right = slow.say(row)
        except Refused as refusal:
            self.refused(desk, row, *refusal.args)
            return
        if isinstance(right, tuple):
            self.check_next(slow, desk.say(row), right[1])
        else:
            self.says(desk, (row, right))


class ByHand(Told):
    def test_a_web_and_what_is_told_of_it(self):
        desk = Desk()
        self.says(
            desk,
            ("web " + TOWN_TEXT, "ok"),
            ("web", TOWN_TEXT),
            ("closed", "-"),
            ("forest", "1 2 3 5"),
            ("weight", "17"),
            ("count", "8"),
            ("lots 0", "0 1,2 3 4 5 6"),
            ("lots 5 3 4", "0,2,3 1 4,5 6"),
            ("narrow 1 3", "5"),
            ("narrow 3 1", "5"),
            ("narrow 4 5", "3"),
            ("narrow 0 4", "none"),
        )
        self.assertIn(desk.say("next"), ("0 1 0", "0 2 0"))

    def test_changes(self):
        self.says(
            Desk(),
            ("web " + TRIO_TEXT, "ok"),
            ("price 2 1", "1 2"),
            ("web", "3,0-1:1,1-2:2,0-2:1"),
            ("price 2 1", "- -"),
            ("close 0", "0 1"),
            ("closed", "0"),
            ("close 1", "1 -"),
            ("closed", "0 1"),
            ("forest", "2"),
            ("weight", "1"),
            ("free 1", "- 1"),
            ("price 0 1000000000", "- -"),
            ("web", "3,0-1:1000000000,1-2:2,0-2:1"),
            ("free 0", "- -"),
            ("back", "- -"),
            ("back", "- -"),
            ("back", "1 -"),
            ("back", "- 1"),
            ("back", "1 0"),
            ("back", "- -"),
            ("back", "2 1"),
            ("web", TRIO_TEXT),
            ("closed", "-"),
        )

    def test_a_night(self):
        self.says(
            Desk(),
            ("web " + TRIO_TEXT, "ok"),
            ("night", "ok"),
            ("under", "-"),
            ("whole", "no"),
            ("wake 0", "- 4"),
            ("wake 1", "- 4"),
            ("under", "0 1"),
            ("end 1", "0 2"),
            ("end 0", "- 0"),
            ("wake 2", "- 4"),
            ("end 2", "1 2"),
            ("wake 0", "- 8"),
            ("whole", "no"),
            ("end 3", "- 2"),
            ("whole", "yes"),
            ("wake 1", "- 0"),
            ("under", "-"),
            ("night", "ok"),
            ("whole", "no"),
            ("wake 2", "- 4"),
        )

    def test_one_house(self):
        desk = Desk()
        self.says(
            desk, ("web 1", "ok"), ("web", "1"), ("forest", "-"), ("closed", "-"), ("weight", "0"), ("count", "1"),
            ("next", "none"), ("night", "ok"), ("whole", "no"), ("wake 0", "- 0"), ("end 0", "- 0"), ("whole", "yes"),
        )
        self.refused(desk, "lots 0", "NoWay", 0)
        self.refused(desk, "narrow 0 0", "NoHouse", 1)

    def test_numbers_among_all_ways_where_some_are_closed(self):
        desk = Desk()
        self.says(
            desk,
            ("web " + TOWN_TEXT, "ok"),
            ("close 0", "- -"),
            ("close 2", "2 4"),
            ("count", "1"),
            ("next", "none"),
            ("narrow 2 3", "4"),
            ("narrow 0 1", "1"),
            ("narrow 1 2", "4"),
            ("lots 2 0", "0,1,2 3 4 5 6"),
            ("night", "ok"),
            ("wake 5", "- 2"),
            ("end 0", "3 2"),
            ("wake 2", "- 2"),
            ("end 1", "4 2"),
            ("wake 0", "- 4"),
            ("end 2", "1 2"),
            ("free 2", "4 2"),
            ("next", "999999993 5 4"),
            ("count", "3"),
        )

    def test_answers_have_as_many_figures_as_they_need(self):
        desk = Desk()
        web = (12, tuple((house, house + 1, 10 ** 9) for house in range(11)))
        self.says(desk, ("web " + show_web(web), "ok"), ("weight", "11000000000"))

    def test_count_of_the_greatest_webs(self):
        desk = Desk()
        ways = tuple((one, 5 + other, 7) for one in range(5) for other in range(6))
        self.says(desk, ("web " + show_web((11, ways)), "ok"), ("count", str(5 ** 5 * 6 ** 4)))


class Nights(Told):
    def desk_with_night(self):
        desk = Desk()
        self.says(desk, ("web " + TRIO_TEXT, "ok"), ("close 2", "- -"), ("night", "ok"), ("wake 0", "- 2"))
        return desk

    def test_each_change_that_is_done_ends_it(self):
        for row in ("price 0 1", "price 0 5", "price 2 0", "close 0", "free 2", "back"):
            desk = self.desk_with_night()
            desk.say(row)
            for of_night in OF_NIGHTS:
                self.refused(desk, of_night, "NoLine")
            self.says(desk, ("night", "ok"), ("under", "-"))

    def test_none_that_is_refused_ends_it(self):
        desk = self.desk_with_night()
        for row, name in (("price 3 1", "NoWay"), ("price 0 1000000001", "NoPrice"), ("close 2", "Closed"),
                          ("free 0", "Free"), ("close 3", "NoWay"), ("free 9", "NoWay"), ("web 0", "NoLine"),
                          ("nights", "NoLine"), ("wake 3", "NoHouse"), ("end 1", "NoStep"), ("price 0", "NoLine")):
            self.refused(desk, row, name)
            self.says(desk, ("under", "0"))
        self.says(desk, ("end 0", "0 2"))
        desk = Desk()
        self.says(desk, ("web " + TRIO_TEXT, "ok"), ("night", "ok"), ("wake 0", "- 4"))
        self.refused(desk, "back", "Nothing")
        self.says(desk, ("under", "0"))

    def test_nothing_that_is_asked_ends_it(self):
        desk = self.desk_with_night()
        for row in ("web", "closed", "forest", "weight", "count", "lots 0 2", "narrow 0 2", "next", "under", "whole"):
            desk.say(row)
            self.says(desk, ("under", "0"))
        self.says(desk, ("end 0", "0 2"))

    def test_another_web_ends_it(self):
        desk = self.desk_with_night()
        self.says(desk, ("web " + TRIO_TEXT, "ok"), ("closed", "-"))
        for row in OF_NIGHTS:
            self.refused(desk, row, "NoLine")
        self.refused(desk, "back", "Nothing")

    def test_back_does_not_bring_it_back(self):
        desk = self.desk_with_night()
        self.says(desk, ("close 0", "0 -"), ("back", "- 0"))
        self.refused(desk, "under", "NoLine")


class Refusals(Told):
    def test_no_web_stands(self):
        desk = Desk()
        for row in ROWS + ("web 0", "web ", "price 9 9999999999", "narrow 0 0", "lots 0 0"):
            self.refused(desk, row, "NoLine")
        self.says(desk, ("web " + TRIO_TEXT, "ok"))
        self.refused(Desk(), "forest", "NoLine")

    def test_no_night_stands(self):
        desk = Desk()
        desk.say("web " + TRIO_TEXT)
        for row in OF_NIGHTS + ("wake 9", "end 9"):
            self.refused(desk, row, "NoLine")

    def test_no_row_by_its_words(self):
        rows = ["", " ", "x", "Web", "WEB", "forests", "lot 0", "lots", "lots ", "lots -", "help", "0", "-", "next 0",
                "web  2", "web 2 ", " web 2", "web\t2", "web 2\n", "web 2 2", "web -", "web 13", "web 02", "web 2,0-1"]
        for row in ROWS:
            words = row.split(" ")
            rows += [" " + row, row + " ", row + "\n", row + "\t", row.upper(), row + " -", row + " x", row + ",0"]
            rows += [row.replace(" ", "  "), row.replace(" ", "\t")] * (len(words) > 1)
            rows += [" ".join(words[:-1])] * (len(words) > 1)
            rows += [row + " 0"] * (words[0] not in ("lots", "web"))
            for place in range(1, len(words)):
                for bent in ("-1", "+0", "00", "01", "x", "", "10000000000", "0.", "1_0", "-"):
                    rows.append(" ".join(words[:place] + [bent] + words[place + 1:]))
        desk = Desk()
        self.says(desk, ("web " + TRIO_TEXT, "ok"), ("night", "ok"), ("wake 0", "- 4"))
        for row in rows:
            self.refused(desk, row, "NoLine")
            self.refused(Desk(), row, "NoLine")
        self.says(desk, ("under", "0"), ("web", TRIO_TEXT), ("closed", "-"), ("end 0", "0 2"))
        self.refused(desk, "back", "Nothing")

    def test_what_is_no_text(self):
        desk = Desk()
        desk.say("web " + TRIO_TEXT)
        for thing in ODD_THINGS + (0, [], ["web"], ("web",)):
            if thing != "web":
                self.refused(desk, thing, "NoLine")

    def test_places(self):
        desk = Desk()
        self.says(desk, ("web " + TRIO_TEXT, "ok"), ("night", "ok"))
        for row, name, place in (
            ("price 3 5", "NoWay", 0),
            ("price 3 1000000001", "NoWay", 0),
            ("price 9999999999 9999999999", "NoWay", 0),
            ("price 2 1000000001", "NoPrice", None),
            ("price 0 9999999999", "NoPrice", None),
            ("close 3", "NoWay", 0),
            ("close 9999999999", "NoWay", 0),
            ("free 3", "NoWay", 0),
            ("free 0", "Free", None),
            ("back", "Nothing", None),
            ("lots 3", "NoWay", 0),
            ("lots 0 1 2 3", "NoWay", 3),
            ("lots 0 0", "NoWay", 1),
            ("lots 2 1 2 9", "NoWay", 2),
            ("lots 2 9 2", "NoWay", 1),
            ("narrow 3 0", "NoHouse", 0),
            ("narrow 3 3", "NoHouse", 0),
            ("narrow 9999999999 4", "NoHouse", 0),
            ("narrow 0 3", "NoHouse", 1),
            ("narrow 2 2", "NoHouse", 1),
            ("wake 3", "NoHouse", 0),
            ("wake 9999999999", "NoHouse", 0),
            ("end 0", "NoStep", 0),
            ("end 9999999999", "NoStep", 0),
        ):
            self.refused(desk, row, name, place)
            self.says(desk, ("web", TRIO_TEXT), ("closed", "-"), ("forest", "0 1"), ("under", "-"))

    def test_closed_and_free(self):
        desk = Desk()
        self.says(desk, ("web " + TRIO_TEXT, "ok"), ("close 1", "1 2"))
        self.refused(desk, "close 1", "Closed")
        self.refused(desk, "free 0", "Free")
        self.says(desk, ("closed", "1"), ("back", "2 1"))
        self.refused(desk, "free 1", "Free")

    def test_a_web_that_is_none_leaves_the_one_that_stands(self):
        desk = Desk()
        self.says(desk, ("web " + TRIO_TEXT, "ok"), ("close 1", "1 2"), ("night", "ok"))
        for row in ("web 0", "web 2,1-0:5", "web ", "web x", "web 2,0-1:5 ", "web 2,0-1:1000000001"):
            self.refused(desk, row, "NoLine")
            self.says(desk, ("web", TRIO_TEXT), ("closed", "1"), ("under", "-"))
        self.says(desk, ("back", "2 1"))


class ByReckoning(Told):
    def test_any_rows(self):
        chance = random.Random(27)
        webs = small_webs(40)[::2] + [web for web in some_webs(60) if len(web[1]) <= 9] + [TOWN]
        for web in webs:
            desk, slow = Desk(), SlowDesk()
            self.both(desk, slow, "web " + show_web(web))
            for _ in range(60):
                self.both(desk, slow, random_row(chance, slow))

    def test_two_by_turns_and_other_webs(self):
        chance = random.Random(28)
        pairs = [(Desk(), SlowDesk()) for _ in range(3)]
        texts = ["web " + show_web(web) for web in small_webs(20)[60:]]
        for _ in range(1500):
            desk, slow = chance.choice(pairs)
            row = chance.choice(texts) if chance.random() < 0.02 else random_row(chance, slow)
            self.both(desk, slow, row)

    def test_great_webs(self):
        for web in WEBS:
            desk, slow = Desk(), SlowDesk()
            self.both(desk, slow, "web " + show_web(web))
            for row in ("web", "forest", "weight", "closed", "narrow 0 1", "narrow 11 5", "night"):
                self.both(desk, slow, row)
            for house in range(12):
                self.both(desk, slow, f"wake {house}")
            for number in range(11, -1, -1):
                self.both(desk, slow, f"end {number}")
                self.both(desk, slow, "under")
        self.assertEqual(len(FULL[1]), 30)


if __name__ == "__main__":
    unittest.main()
