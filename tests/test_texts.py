import itertools
import re
import unittest

from lotjoin.errors import NoText
from lotjoin.texts import read_list, read_web, show_list, show_web
from lotjoin.webs import is_web
from reckon import NUMBER, web_by_form
from refusals import RefusesNoWeb
from samples import FULL, MOST, ODD_THINGS, TOWN, WEBS, small_webs, some_webs

SIGNS = "\n\t" + "".join(chr(code) for code in range(32, 127))
NO_TEXTS = tuple(thing for thing in ODD_THINGS if not isinstance(thing, str)) + (0, 1, 12, -1, [], [1], ["2"], ("2",))


def bent_texts(text, signs):
    """The text with a sign put in, left out, or put for another, at each place; with two exchanged, or one doubled."""
    for place in range(len(text) + 1):
        for sign in signs:
            yield text[:place] + sign + text[place:]
            yield text[:place] + sign + text[place + 1:]
        yield text[:place] + text[place + 1:]
        yield text[:place]
        yield text[place:]
        yield text[:place] + text[place:][1::-1] + text[place + 2:]


def list_by_form(text):
    if text == "-":
        return []
    return list(map(int, text.split(" "))) if re.fullmatch(f"{NUMBER}( {NUMBER})*", text) else None


class Texts(unittest.TestCase):
    def check(self, read, text, right):
        with self.subTest(read.__name__, text=text):
            if right is None:
                with self.assertRaises(NoText):
                    read(text)
            else:
                self.assertEqual(read(text), right)


class OfWebs(RefusesNoWeb, Texts):
    asks = (show_web,)

    def test_by_hand(self):
        for web, text in (
            ((1, ()), "1"),
            ((12, ()), "12"),
            ((2, ((0, 1, 0),)), "2,0-1:0"),
            ((2, ((0, 1, MOST),)), "2,0-1:1000000000"),
            ((12, ((10, 11, 3), (0, 11, 30))), "12,10-11:3,0-11:30"),
            (TOWN, "7,1-2:5,0-1:5,0-2:5,4-5:0,2-3:1000000000,0-3:7"),
        ):
            self.assertEqual(show_web(web), text)
            self.assertEqual(read_web(text), web)

    def test_written_and_read_again(self):
        for web in list(WEBS) + small_webs(50) + some_webs(150):
            text = show_web(web)
            self.assertIs(type(text), str)
            read = read_web(text)
            self.assertEqual(read, web)
            self.assertTrue(is_web(read))

    def test_bent(self):
        for text in ("1", "12", "3,0-1:5,1-2:10", "11,9-10:0", "2,0-1:1000000000"):
            for bent in bent_texts(text, SIGNS):
                self.check(read_web, bent, web_by_form(bent))

    def test_all_short_texts(self):
        for size in range(1, 5):
            for signs in itertools.product("012,-: ", repeat=size):
                text = "".join(signs)
                self.check(read_web, text, web_by_form(text))

    def test_no_texts_of_webs(self):
        for text in (
            "", " ", "-", ",", "0", "00", "01", "13", "-1", "+1", "1 ", " 1", "1\n", "1\t", "1,", ",1", "1_0", "1.0",
            "1,,", "2,0-1:5,", "2,,0-1:5", "2;0-1:5", "2,0-1", "2,0-1:", "2,0:5", "2,0-:5", "2,-1:5", "2,:", "2,-:",
            "2,0-1-1:5", "2,0-1:5:5", "2,0-1:-5", "2,0--1:5", "2,00-1:5", "2,0-01:5", "2,0-1:05", "02,0-1:5",
            "2,0-1:+5", "2, 0-1:5", "2,0 -1:5", "2,0-1: 5", "2,1-0:5", "2,0-0:5", "2,0-2:5", "1,0-1:5",
            "2,0-1:1000000001", "2,0-1:9999999999", "2,0-1:10000000000", "2,0-1:01000000000", "2,0-1:5,0-1:6",
            "3,0-1:5,1-2:5,0-1:5", "(2, ((0, 1, 5),))", "2,(0,1,5)", "2,0:1-5", "two", "2,a-b:c", "2,0-1:5 2,0-1:5",
            "2,0-1:5\n2,0-1:5", "10000000000", "99999999999999999999999999",
        ):
            self.check(read_web, text, None)

    def test_thirty_ways_and_one_more(self):
        self.assertEqual(read_web(show_web(FULL)), FULL)
        self.check(read_web, show_web(FULL) + ",10-11:1", None)

    def test_what_is_no_text(self):
        for thing in NO_TEXTS:
            with self.subTest(thing=thing), self.assertRaises(NoText):
                read_web(thing)


class OfLists(Texts):
    def test_by_hand(self):
        for numbers, text in (
            ([], "-"),
            ([0], "0"),
            ([7, 0, 7], "7 0 7"),
            ([10, 9, 8], "10 9 8"),
            ([9999999999, 0], "9999999999 0"),
        ):
            self.assertEqual(show_list(numbers), text)
            self.assertEqual(read_list(text), numbers)
            self.assertIs(type(read_list(text)), list)
            self.assertIs(type(show_list(numbers)), str)

    def test_shown_with_as_many_figures_as_needed(self):
        self.assertEqual(show_list([10 ** 10, 10 ** 20]), "10000000000 100000000000000000000")

    def test_written_and_read_again(self):
        for size in range(4):
            for numbers in itertools.product((0, 1, 10, 99, MOST, 10 ** 10 - 1), repeat=size):
                self.assertEqual(read_list(show_list(list(numbers))), list(numbers))

    def test_bent(self):
        for text in ("-", "0", "5 0 12", "10 9999999999 1", "30 3"):
            for bent in bent_texts(text, SIGNS):
                self.check(read_list, bent, list_by_form(bent))

    def test_all_short_texts(self):
        for size in range(6):
            for signs in itertools.product("01 -,", repeat=size):
                text = "".join(signs)
                self.check(read_list, text, list_by_form(text))

    def test_figures(self):
        for figures in range(1, 14):
            self.check(read_list, "9" * figures, [10 ** figures - 1] if figures <= 10 else None)
            self.check(read_list, "1 " + "1" + "0" * (figures - 1), [1, 10 ** (figures - 1)] if figures <= 10 else None)
            self.check(read_list, "0" * figures, [0] if figures == 1 else None)
            self.check(read_list, "0" + "1" * figures, None)

    def test_no_texts_of_lists(self):
        for text in (
            "", " ", "--", "- ", " -", "- 1", "1 -", "-1", "+1", "1  2", " 1", "1 ", "1,2", "1\t2", "1\n", "00", "0 00",
            "1_0", "1.0", "a", "[]", "[1]", "10000000000", "1 20000000000",
        ):
            self.check(read_list, text, None)

    def test_what_is_no_text(self):
        for thing in NO_TEXTS:
            with self.subTest(thing=thing), self.assertRaises(NoText):
                read_list(thing)

    def test_lists_stay_and_are_the_askers_own(self):
        numbers = [3, 1, 2]
        show_list(numbers)
        self.assertEqual(numbers, [3, 1, 2])
        for text, right in (("-", []), ("3 1", [3, 1])):
            told = read_list(text)
            told.append(99)
            self.assertEqual(read_list(text), right)


if __name__ == "__main__":
    unittest.main()
