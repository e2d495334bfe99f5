import unittest

from tests.helper import ask, ask_behind, as_text, last_text, model_names, name, run


def name_of(style, number, prefix=""):
    return last_text(run(style, number, 1, prefix), name(0))


class DigitsTest(unittest.TestCase):
    def test_digits(self):
        for number in (1, 9, 10, 99, 100, 101, 999, 1000, 12345, 99999):
            self.assertEqual(name_of(0, number), str(number))
            self.assertEqual(name_of(0, number, "A."), "A." + str(number))


class RomanTest(unittest.TestCase):
    KNOWN = ((1, "i"), (2, "ii"), (3, "iii"), (4, "iv"), (5, "v"), (6, "vi"), (8, "viii"), (9, "ix"), (10, "x"),
             (14, "xiv"), (19, "xix"), (39, "xxxix"), (40, "xl"), (44, "xliv"), (49, "xlix"), (50, "l"), (90, "xc"),
             (99, "xcix"), (100, "c"), (399, "cccxcix"), (400, "cd"), (444, "cdxliv"), (500, "d"), (900, "cm"),
             (999, "cmxcix"), (1000, "m"), (1066, "mlxvi"), (1994, "mcmxciv"), (2026, "mmxxvi"),
             (3888, "mmmdccclxxxviii"), (3999, "mmmcmxcix"))

    def test_small(self):
        for number, text in self.KNOWN:
            self.assertEqual(name_of(1, number), text)

    def test_capital(self):
        for number, text in self.KNOWN:
            self.assertEqual(name_of(2, number), text.upper())

    def test_the_prefix_keeps_its_case(self):
        self.assertEqual(name_of(1, 9, "A.x"), "A.xix")
        self.assertEqual(name_of(2, 9, "a.x"), "a.xIX")


class LettersTest(unittest.TestCase):
    KNOWN = ((1, "a"), (2, "b"), (25, "y"), (26, "z"), (27, "aa"), (28, "ab"), (52, "az"), (53, "ba"), (54, "bb"),
             (78, "bz"), (79, "ca"), (676, "yz"), (677, "za"), (701, "zy"), (702, "zz"))

    def test_letters(self):
        for number, text in self.KNOWN:
            self.assertEqual(name_of(3, number), text)
            self.assertEqual(name_of(3, number, ".Z"), ".Z" + text)


class WholeStylesTest(unittest.TestCase):
    def test_every_name_of_a_style(self):
        for told in ((1, 1, 3999), (2, 1, 3999), (3, 1, 702), (1, 1, 3999, "A.x."), (0, 1, 12000, "p")):
            calls = [run(*told)]
            queries = [name(index) for index in range(told[2])]
            found = [as_text(answer) for answer in ask_behind(calls, queries)]
            self.assertEqual(found, model_names(*told))

    def test_answers_are_bytes_behind_0(self):
        self.assertEqual(ask(run(0, 12, 1, "A."), name(0)), [[0, 0], [0, 65, 46, 49, 50]])
