import unittest
from string import ascii_letters

from tests.helper import (MOST_NUMBER, ask, ask_behind, as_text, begin, last, last_text, model_names, name, page,
                          pages, run)

# Each run with the index of its first page.
RUNS = ((0, (1, 1, 12, "")), (12, (0, 1, 250, "")), (262, (2, 3, 5, "A.")), (267, (3, 27, 40, "")),
        (307, (0, 95, 20, "Ab")), (327, (3, 1, 1, "Q")))
TOTAL = 328


def book():
    return [run(*told) for start, told in RUNS]


class PagesTest(unittest.TestCase):
    def test_how_many(self):
        calls = []
        for start, told in RUNS:
            self.assertEqual(last(*calls, pages()), [0, start])
            calls.append(run(*told))
        self.assertEqual(last(*calls, pages()), [0, TOTAL])


class NameTest(unittest.TestCase):
    def test_first_and_last_page_of_each_run(self):
        for start, told in RUNS:
            names = model_names(*told)
            self.assertEqual(last_text(*book(), name(start)), names[0])
            self.assertEqual(last_text(*book(), name(start + told[2] - 1)), names[-1])

    def test_an_index_that_is_not_there(self):
        for index in (TOTAL, TOTAL + 1, 65535, 65536, MOST_NUMBER):
            self.assertEqual(last(*book(), name(index)), [-1])
        for index in (0, 1, MOST_NUMBER):
            self.assertEqual(ask(name(index)), [[-1]])
        self.assertEqual(ask(run(0, 1, 65536), name(65535), name(65536))[1:], [[0, 54, 53, 53, 51, 54], [-1]])


class PageTest(unittest.TestCase):
    def found(self, told):
        return last(*book(), page(told))

    def test_first_and_last_page_of_each_run(self):
        for start, told in RUNS:
            names = model_names(*told)
            self.assertEqual(self.found(names[0]), [0, start])
            self.assertEqual(self.found(names[-1]), [0, start + told[2] - 1])

    def test_beside_each_run(self):
        for told in ("xiii", "0", "251", "A.II", "A.VIII", "z", "bo", "Ab94", "Ab115", "Qb"):
            self.assertEqual(self.found(told), [-3], told)

    def test_another_case_of_letters(self):
        for told in ("X", "Ix", "iX", "XII", "a.III", "A.iii", "A.Iii", "AA", "aA", "ab95", "AB95", "aQ", "qa", "QA"):
            self.assertEqual(self.found(told), [-3], told)

    def test_a_byte_more_or_less(self):
        for told in ("xiix", ".xii", "xii.", " xii", "xii ", "A.", "A", "AIII", ".III", "A.III.", "A..III", "Ab", "b95",
                     "Ab9", "Ab9 5", "Ab095", "01", "001", "1 ", "+1", "1.", "25 0", "2500", "Q", "Qaa", "1-", "1!",
                     "1[f]"):
            self.assertEqual(self.found(told), [-3], told)

    def test_a_foreign_byte_in_any_place(self):
        for told in ("xii", "250", "A.III", "Ab100", "Qa"):
            for position in range(len(told) + 1):
                for byte in (0, 32, 45, 63, 128, 178, 255):
                    row = [ord(sign) for sign in told]
                    self.assertEqual(self.found(row[:position] + [byte] + row[position:]), [-3])
                    if position < len(told):
                        self.assertEqual(self.found(row[:position] + [byte] + row[position + 1:]), [-3])

    def test_no_bytes(self):
        self.assertEqual(self.found(""), [-3])
        self.assertEqual(ask(page("")), [[-3]])

    def test_prefix_alone_and_point_alone(self):
        calls = (run(0, 1, 9, "."), run(1, 1, 9, "...."))
        for told in (".", "....", "..1", "i", "1"):
            self.assertEqual(last(*calls, page(told)), [-3])
        self.assertEqual(last(*calls, page(".1")), [0, 0])
        self.assertEqual(last(*calls, page("....ix")), [0, 17])

    def test_every_sign_of_a_prefix_before_digits(self):
        for sign in ascii_letters + ".":
            calls = (run(0, 1, 3), run(0, 15, 20, "A" + sign))
            self.assertEqual(last(*calls, page("A" + sign + "15")), [0, 3])
            self.assertEqual(last(*calls, page("A" + sign + "34")), [0, 22])
            self.assertEqual(last(*calls, page("A15")), [-3])
            self.assertEqual(last(*calls, page(sign + "15")), [-3])

    def test_long_rows(self):
        for told in ("1" * 1000, "i" * 1000, "0" * 999 + "1", [255] * 1000, "100000", "m" * 16):
            self.assertEqual(self.found(told), [-3])

    def test_no_wrong_roman_numbers(self):
        calls = [run(1, 1, 3999)]
        for told in ("iiii", "vv", "ic", "im", "xm", "iix", "vx", "ivi", "mmmm", "lc", "dm", "ixi", "xcx", "mmmmi"):
            self.assertEqual(last(*calls, page(told)), [-3], told)

    def test_runs_with_numbers_out_of_order(self):
        calls = (run(0, 50, 10), run(0, 1, 10), run(0, 20, 10))
        for told, index in (("50", 0), ("59", 9), ("1", 10), ("10", 19), ("20", 20), ("29", 29)):
            self.assertEqual(last(*calls, page(told)), [0, index])
        self.assertEqual(last(*calls, page("11")), [-3])


class NamesAreReadBackTest(unittest.TestCase):
    """B1: the page of the name of every index is that index."""

    BOOKS = (
        [run(*told) for start, told in RUNS],
        [run(0, 1, 65536)],
        [run(0, 34464, 65536, "Zz.a")],
        [run(1, 1, 3999), run(2, 1, 3999), run(3, 1, 702, "A."), run(1, 1, 3999, "B."), run(0, 1, 3000)],
        [run(1, 11, 3989, "x."), run(1, 12, 20), run(1, 1, 1, "x"), run(3, 1, 8), run(3, 1, 26, "q")],
        [run(0, 10 * number + 1, 9, "abc"[:number % 4]) for number in range(64)],
    )

    def test_whole_books(self):
        for number, calls in enumerate(self.BOOKS):
            answered = ask(begin(number % 5), *calls, pages())
            self.assertTrue(all(answer[0] == 0 for answer in answered))
            total = answered[-1][1]
            names = [as_text(answer) for answer in ask_behind(calls, [name(index) for index in range(total)])]
            self.assertEqual(len(set(names)), total)
            found = ask_behind(calls, [page(text) for text in names])
            self.assertEqual(found, [[0, index] for index in range(total)])
