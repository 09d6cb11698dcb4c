import unittest

from lotjoin import errors

PLACED = ("NoWay", "NoJoin", "NoStep", "NoHouse")
WORDED = ("NoWeb", "NoPrice", "TooMany", "Closed", "Free", "Nothing", "NoNumber", "NoText", "NoLine")


class Classes(unittest.TestCase):
    def test_the_root_stands_under_value_error(self):
        self.assertEqual(errors.LotError.__bases__, (ValueError,))

    def test_each_stands_right_under_the_root(self):
        for name in PLACED + WORDED:
            with self.subTest(name):
                self.assertEqual(getattr(errors, name).__bases__, (errors.LotError,))

    def test_none_is_another(self):
        classes = [getattr(errors, name) for name in PLACED + WORDED]
        self.assertEqual(len(set(classes)), 13)
        for one in classes:
            self.assertEqual([c for c in classes if issubclass(one, c)], [one])

    def test_no_further_class(self):
        found = [n for n in dir(errors) if isinstance(getattr(errors, n), type)]
        self.assertEqual(sorted(found), sorted(PLACED + WORDED + ("LotError",)))


class Made(unittest.TestCase):
    def test_of_a_place(self):
        for name in PLACED:
            for place in (0, 1, 29, 10 ** 20):
                with self.subTest(name, place=place):
                    made = getattr(errors, name)(place)
                    self.assertEqual(made.place, place)
                    self.assertIsInstance(made, errors.LotError)
                    self.assertIsInstance(made, ValueError)
                    self.assertIsInstance(str(made), str)

    def test_places_are_each_ones_own(self):
        first, second = errors.NoWay(1), errors.NoWay(2)
        self.assertEqual((first.place, second.place), (1, 2))

    def test_a_place_is_needed(self):
        for name in PLACED:
            with self.subTest(name), self.assertRaises(TypeError):
                getattr(errors, name)()

    def test_of_a_text(self):
        for name in WORDED + ("LotError",):
            with self.subTest(name):
                made = getattr(errors, name)("some words")
                self.assertIn("some words", str(made))
                self.assertIsInstance(made, errors.LotError)
                self.assertIsInstance(made, ValueError)
                self.assertFalse(hasattr(made, "place"))

    def test_raised_and_taken_by_the_root(self):
        for name in PLACED + WORDED:
            argument = 3 if name in PLACED else "words"
            with self.subTest(name), self.assertRaises(errors.LotError):
                raise getattr(errors, name)(argument)


if __name__ == "__main__":
    unittest.main()
