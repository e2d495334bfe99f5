import unittest

from tests.helper import MOST_NUMBER, ask_behind, as_text, ask, begin, last, last_text, run, write

WAYS = range(5)


def stretch(way, from_number, to_number, prefix=""):
    """The text of the stretch, in a run of digits from 1 on."""
    return last_text(begin(way), run(0, 1, 20000, prefix), write(from_number - 1, to_number - 1))


class WaysTest(unittest.TestCase):
    # from, to, and what is told of to by the ways 0 to 4
    STRETCHES = (
        (101, 108, "108", "8", "08", "8", "8"),
        (321, 328, "328", "8", "28", "28", "8"),
        (1, 2, "2", "2", "2", "2", "2"),
        (3, 9, "9", "9", "9", "9", "9"),
        (9, 10, "10", "10", "10", "10", "10"),
        (9, 25, "25", "25", "25", "25", "25"),
        (71, 72, "72", "2", "72", "72", "2"),
        (11, 12, "12", "2", "12", "12", "12"),
        (10, 19, "19", "9", "19", "19", "19"),
        (20, 29, "29", "9", "29", "29", "9"),
        (96, 117, "117", "117", "117", "117", "117"),
        (99, 100, "100", "100", "100", "100", "100"),
        (98, 99, "99", "9", "99", "99", "9"),
        (100, 104, "104", "4", "04", "104", "4"),
        (600, 613, "613", "13", "13", "613", "13"),
        (1100, 1123, "1123", "23", "23", "1123", "23"),
        (1000, 1001, "1001", "1", "01", "1001", "1"),
        (107, 108, "108", "8", "08", "8", "8"),
        (109, 110, "110", "10", "10", "10", "10"),
        (505, 517, "517", "17", "17", "17", "17"),
        (1002, 1006, "1006", "6", "06", "6", "6"),
        (110, 111, "111", "1", "11", "11", "11"),
        (110, 119, "119", "9", "19", "19", "19"),
        (199, 200, "200", "200", "200", "200", "200"),
        (201, 299, "299", "99", "99", "99", "99"),
        (321, 325, "325", "5", "25", "25", "5"),
        (415, 532, "532", "532", "532", "532", "532"),
        (909, 1009, "1009", "1009", "1009", "1009", "1009"),
        (999, 1000, "1000", "1000", "1000", "1000", "1000"),
        (1211, 1214, "1214", "4", "14", "14", "14"),
        (1221, 1224, "1224", "4", "24", "24", "4"),
        (1496, 1500, "1500", "500", "500", "500", "500"),
        (1536, 1538, "1538", "8", "38", "38", "8"),
        (11564, 11615, "11615", "615", "615", "615", "615"),
        (12991, 13001, "13001", "3001", "3001", "3001", "3001"),
        (13, 8000, "8000", "8000", "8000", "8000", "8000"),
        (121, 1121, "1121", "1121", "1121", "1121", "1121"),
    )

    def test_stretches_by_each_way(self):
        for row in self.STRETCHES:
            for way in WAYS:
                self.assertEqual(stretch(way, row[0], row[1]), f"{row[0]}-{row[2 + way]}", (way, row))

    def test_with_a_prefix(self):
        for row in self.STRETCHES:
            self.assertEqual(stretch(0, row[0], row[1], "A."), f"A.{row[0]}-A.{row[2]}")
            for way in (1, 2, 3, 4):
                self.assertEqual(stretch(way, row[0], row[1], "A."), f"A.{row[0]}-{row[2 + way]}", (way, row))

    def test_other_styles_tell_the_whole_name_by_each_way(self):
        for way in WAYS:
            self.assertEqual(last_text(begin(way), run(1, 1, 300), write(100, 107)), "ci-cviii")
            self.assertEqual(last_text(begin(way), run(1, 1, 300, "A."), write(0, 1)), "A.i-A.ii")
            self.assertEqual(last_text(begin(way), run(2, 1, 300), write(100, 107)), "CI-CVIII")
            self.assertEqual(last_text(begin(way), run(2, 5, 300, "b"), write(0, 4)), "bV-bIX")
            self.assertEqual(last_text(begin(way), run(3, 1, 702), write(26, 27)), "aa-ab")
            self.assertEqual(last_text(begin(way), run(3, 1, 702, "..Q"), write(0, 701)), "..Qa-..Qzz")

    def test_one_page_alone(self):
        for way in WAYS:
            for told, text in (((0, 118, 1), "118"), ((0, 118, 1, "A."), "A.118"), ((1, 4, 1), "iv"),
                               ((2, 4, 1), "IV"), ((3, 28, 1), "ab")):
                self.assertEqual(last_text(begin(way), run(*told), write(0, 0)), text)

    def test_numbers_count_not_indexes(self):
        for way, text in enumerate(("101-108", "101-8", "101-08", "101-8", "101-8")):
            self.assertEqual(last_text(begin(way), run(1, 1, 12), run(0, 95, 50), write(18, 25)), text)

    def test_all_pairs_against_a_model(self):
        for first, count in ((1, 130), (190, 40), (985, 130), (9985, 40), (99960, 40)):
            pairs = [(m, n) for m in range(first, first + count) for n in range(m + 1, first + count)]
            for way in (1, 2, 3, 4):
                calls = [begin(way), run(0, first, count)]
                found = ask_behind(calls, [write(m - first, n - first) for m, n in pairs])
                texts = [f"{m}-{str(n)[-model_digits(way, m, n):]}" for m, n in pairs]
                self.assertEqual([as_text(answer) for answer in found], texts)


def model_digits(way, m, n):
    """How many of n's last digits are told, reckoned by powers of ten."""
    whole = len(str(n))
    differing = next(k for k in range(1, whole + 1) if k == whole or n // 10 ** k == m // 10 ** k)
    two = min(whole, max(differing, 2))
    if way == 1:
        return differing
    if way == 2:
        return two
    if way == 3:
        if m < 100 or m % 100 == 0:
            return whole
        return differing if m % 100 < 10 else two
    return two if str(n)[-2:-1] == "1" else differing


class MarksTest(unittest.TestCase):
    CALLS = (run(1, 1, 12), run(0, 1, 300), run(3, 1, 5, "A."))

    def text(self, way, place):
        return last_text(begin(way), *self.CALLS, place)

    def test_notes(self):
        for way in WAYS:
            self.assertEqual(self.text(way, write(12, 12, 1, 0, 1)), "1[n1]")
            self.assertEqual(self.text(way, write(111, 111, 1, 0, 16777215)), "100[n16777215]")
            self.assertEqual(self.text(way, write(3, 3, 1, 0, 40)), "iv[n40]")
            self.assertEqual(self.text(way, write(316, 316, 1, 0, 1000)), "A.e[n1000]")

    def test_figures_and_tables(self):
        for way in WAYS:
            self.assertEqual(self.text(way, write(12, 12, 2)), "1[f]")
            self.assertEqual(self.text(way, write(0, 0, 2)), "i[f]")
            self.assertEqual(self.text(way, write(12, 12, 3)), "1[t]")
            self.assertEqual(self.text(way, write(312, 312, 3)), "A.a[t]")

    def test_main_ones(self):
        for way, told in enumerate(("108", "8", "08", "8", "8")):
            self.assertEqual(self.text(way, write(12, 12, 0, 1)), "1!")
            self.assertEqual(self.text(way, write(112, 119, 0, 1)), f"101-{told}!")
            self.assertEqual(self.text(way, write(312, 316, 0, 1)), "A.a-A.e!")

    def test_answer_is_bytes_behind_0(self):
        self.assertEqual(last(*self.CALLS, write(12, 13, 0, 1)), [0, 49, 45, 50, 33])


class NotRightTest(unittest.TestCase):
    CALLS = (run(1, 1, 12), run(0, 1, 300), run(0, 301, 10))

    def refused(self, *place):
        for way in WAYS:
            self.assertEqual(last(begin(way), *self.CALLS, write(*place)), [-2], place)

    def right(self, *place):
        for way in WAYS:
            self.assertEqual(last(begin(way), *self.CALLS, write(*place))[0], 0, place)

    def test_a_page_that_is_not_there(self):
        self.refused(322, 322)
        self.refused(321, 322)
        self.refused(322, 321)
        self.refused(MOST_NUMBER, MOST_NUMBER)
        self.refused(0, MOST_NUMBER)
        self.refused(322, 322, 1, 0, 1)
        self.refused(322, 322, 2)
        self.right(321, 321)
        self.assertEqual(ask(write(0, 0)), [[-2]])

    def test_two_runs(self):
        self.refused(11, 12)
        self.refused(0, 311)
        self.refused(311, 312)
        self.refused(311, 312, 0, 1)
        self.right(0, 11)
        self.right(12, 311)
        self.right(312, 321)

    def test_from_behind_to(self):
        self.refused(1, 0)
        self.refused(13, 12)
        self.refused(311, 12, 0, 1)
        self.refused(12, 11)

    def test_kinds_that_are_not_there(self):
        for kind in (4, 5, 255, MOST_NUMBER):
            self.refused(12, 12, kind)
            self.refused(12, 12, kind, 0, 1)

    def test_kinds_of_one_page(self):
        self.refused(12, 13, 1, 0, 1)
        self.refused(12, 13, 2)
        self.refused(12, 13, 3)
        self.right(12, 13, 0)

    def test_main_with_another_kind(self):
        self.refused(12, 12, 1, 1, 1)
        self.refused(12, 12, 2, 1)
        self.refused(12, 12, 3, 1)
        self.right(12, 12, 0, 1)

    def test_number_of_a_note(self):
        self.refused(12, 12, 1, 0, 0)
        self.refused(12, 12, 1, 0, 16777216)
        self.refused(12, 12, 1, 0, MOST_NUMBER)
        self.right(12, 12, 1, 0, 1)
        self.right(12, 12, 1, 0, 16777215)

    def test_number_of_a_note_where_there_is_none(self):
        for note in (1, 16777215, 16777216, MOST_NUMBER):
            self.refused(12, 12, 0, 0, note)
            self.refused(12, 12, 0, 1, note)
            self.refused(12, 14, 0, 0, note)
            self.refused(12, 12, 2, 0, note)
            self.refused(12, 12, 3, 0, note)


class NoLongerThanWay0Test(unittest.TestCase):
    """B3, over all pairs of pages of some runs."""

    def test_all_pairs(self):
        for told in ((0, 1, 120, ""), (0, 95, 60, "A."), (0, 980, 60, "x"), (1, 1, 50, ""), (2, 80, 30, "B"),
                     (3, 15, 50, "")):
            pairs = [write(start, end) for start in range(told[2]) for end in range(start, told[2])]
            lengths = []
            for way in WAYS:
                answered = ask_behind([begin(way), run(*told)], pairs)
                self.assertTrue(all(answer[0] == 0 for answer in answered))
                lengths.append([len(answer) for answer in answered])
            for way in (1, 2, 3, 4):
                self.assertTrue(all(cut <= whole for cut, whole in zip(lengths[way], lengths[0])))
