import random
import unittest

from tests.helper import (MOST_NOTE, WAYS, ModelReader, ask, ask_behind, as_places, as_text, begin, figure, flat, last,
                          main, note, plain, read, run, table, write)

RUNS = ((1, 1, 12, ""), (0, 1, 1200, ""), (0, 1201, 100, ""), (0, 1, 150, "A."), (3, 1, 60, "q"), (2, 1, 30, ""),
        (1, 1, 9, "A."))
DIGITS = 11       # behind it the index of the page of name 1 is 12
SECOND = 1212     # the index of the page 1201
PREFIXED = 1311   # behind it the index of the page A.1
LETTERS = 1461    # behind it the index of the page qa
CAPITALS = 1521   # behind it the index of the page I
SMALL = 1551      # behind it the index of the page A.i


def book():
    return [run(*told) for told in RUNS]


def read_all(texts, way=0):
    """What each text is read as: a place, or None."""
    answered = ask_behind([begin(way)] + book(), [read(told) for told in texts])
    return [None if answer == [-3] else tuple(answer[1:]) if answer[0] == 0 else answer for answer in answered]


class ReadCase(unittest.TestCase):
    def right(self, told, place):
        for way in WAYS:
            self.assertEqual(last(begin(way), *book(), read(told)), [0] + list(place), (way, told))

    def refused(self, *texts):
        for way in WAYS:
            self.assertEqual(read_all(texts, way), [None] * len(texts), (way, texts))


class ToToldTest(ReadCase):
    def stretch(self, told, start, end, base=DIGITS):
        self.right(told, plain(base + start, base + end))
        self.right(told + "!", main(base + start, base + end))

    def test_fewer_digits_than_from(self):
        for told, start, end in (("101-8", 101, 108), ("101-08", 101, 108), ("98-9", 98, 99), ("10-9", 10, 19),
                                 ("600-13", 600, 613), ("1100-23", 1100, 1123), ("1101-123", 1101, 1123),
                                 ("1090-100", 1090, 1100), ("1000-1", 1000, 1001), ("1000-01", 1000, 1001),
                                 ("1000-001", 1000, 1001), ("1199-200", 1199, 1200)):
            self.stretch(told, start, end)
        self.refused("999-9", "999-99", "1199-0", "1199-199")

    def test_as_many_digits_as_from(self):
        for told, start, end in (("5-7", 5, 7), ("1-9", 1, 9), ("10-99", 10, 99), ("101-108", 101, 108),
                                 ("100-999", 100, 999), ("1000-1200", 1000, 1200)):
            self.stretch(told, start, end)

    def test_more_digits_than_from(self):
        for told, start, end in (("9-10", 9, 10), ("1-1200", 1, 1200), ("99-100", 99, 100), ("13-800", 13, 800),
                                 ("999-1000", 999, 1000)):
            self.stretch(told, start, end)

    def test_a_0_in_front_where_from_has_more_digits(self):
        self.stretch("1001-02", 1001, 1002)
        self.stretch("1001-002", 1001, 1002)
        self.stretch("1001-012", 1001, 1012)
        self.stretch("100-01", 100, 101)
        self.refused("1001-0", "1001-00", "1001-000", "1001-01", "1001-001", "110-0", "110-00", "110-01", "1100-099")

    def test_a_0_in_front_where_from_has_not_more_digits(self):
        self.refused("5-07", "5-0", "5-007", "12-013", "12-0", "12-00", "12-02", "101-0108", "101-008", "101-000",
                     "1001-01002", "1001-0002", "9-010", "1-00000000002", "99-0100")

    def test_not_behind_from(self):
        self.refused("12-11", "12-12", "12-2", "12-1", "12-02", "101-1", "101-01", "101-101", "101-00", "101-100",
                     "1100-1099", "1100-099", "2-1", "1-1", "1200-1199", "1200-0", "500-499")

    def test_not_in_the_run(self):
        self.refused("1-1301", "1-99999", "1-100000", "1-4294967296", "10-999999", "1-" + "9" * 900, "1-1" + "0" * 900,
                     "1200-9", "1250-1301", "1250-99999", "A.1-151", "A.149-A.151", "A.101-99", "A.101-999")

    def test_in_another_run(self):
        self.refused("1199-1201", "1200-1201", "1200-1", "1200-201", "1-1201", "1190-1300", "1201-1", "1201-1200",
                     "1300-1", "A.1-1201", "A.100-1000")
        self.right("1201-1300", plain(SECOND, SECOND + 99))
        self.right("1201-2", plain(SECOND, SECOND + 1))
        self.right("1299-300", plain(SECOND + 98, SECOND + 99))

    def test_whole_name_with_a_prefix_in_style_0(self):
        self.stretch("A.101-A.108", 101, 108, PREFIXED)
        self.stretch("A.101-108", 101, 108, PREFIXED)
        self.stretch("A.101-8", 101, 108, PREFIXED)
        self.stretch("A.101-08", 101, 108, PREFIXED)
        self.stretch("A.8-A.12", 8, 12, PREFIXED)
        self.stretch("A.8-12", 8, 12, PREFIXED)
        self.stretch("A.1-A.150", 1, 150, PREFIXED)
        self.refused("A.101-A.8", "A.101-A.08", "A.101-A.0108", "A.101-A.101", "A.101-A.100", "A.101-a.108",
                     "A.101-.108", "A.101-A108", "A.101-B.108", "A.101-AA.108", "A.101-A.", "A.101-A.A.108",
                     "A.101- 108", "A.101-A.i", "A.101-A.ix")

    def test_whole_name_in_the_other_styles(self):
        self.stretch("i-iv", 1, 4, -1)
        self.stretch("i-xii", 1, 12, -1)
        self.stretch("qa-qb", 1, 2, LETTERS)
        self.stretch("qz-qaa", 26, 27, LETTERS)
        self.stretch("I-XXX", 1, 30, CAPITALS)
        self.stretch("A.i-A.ix", 1, 9, SMALL)
        self.refused("i-xiii", "iv-i", "iv-iv", "iv-iii", "i-4", "i-2", "i-04", "i-iV", "i-IV", "qa-b", "qa-qbi",
                     "qb-qa", "qa-2", "qa-02", "I-ii", "I-2", "A.i-ix", "A.i-ii", "A.i-9", "A.i-A.i", "A.ix-A.i",
                     "xi-i", "i-i")

    def test_a_name_of_another_run(self):
        self.refused("i-1", "i-qa", "i-I", "i-II", "i-A.1", "i-A.ii", "1-i", "1-xii", "1-A.2", "1-qa", "101-A.108",
                     "A.1-A.i", "A.i-A.1", "A.i-A.9", "qa-i", "qa-XXX", "I-A.ix")

    def test_a_name_that_is_not_there(self):
        self.refused("0", "01", "1301", "xiii", "XXXI", "A.151", "A.0", "A.x", "q", "qbi", "A.", "A", "b", "iiii",
                     "0-1", "01-2", "1301-1302", "xiii-xiv", "q-qa", "A.-A.2", "100000", "1" * 900)

    def test_dashes(self):
        self.refused("-", "1-", "-1", "--", "1--2", "1-2-", "-1-2", "1-2-3", "i-", "-i", "i--iv", "1-!", "1-[f]",
                     "-!", "i-ii-iii", "A.1-A.2-A.3")


class MarksTest(ReadCase):
    def test_notes(self):
        for told, place in (("1[n1]", note(12, 1)), ("i[n40]", note(0, 40)), ("A.1[n16777215]", note(1312, MOST_NOTE)),
                            ("qa[n9999999]", note(1462, 9999999)), ("I[n10000000]", note(1522, 10000000)),
                            ("1200[n16777214]", note(1211, 16777214))):
            self.right(told, place)

    def test_wrong_numbers_of_notes(self):
        for number in ("16777216", "16777217", "20000000", "99999999", "100000000", "4294967297", "0", "00", "01",
                       "0016777215", "", "-1", "+1", "1 ", " 1", "1.", "a", "n1", "1n", "i", "1,1", "1, 1",
                       "9" * 900, "1" + "0" * 900, "0" * 900 + "1"):
            self.refused(f"1[n{number}]", f"i[n{number}]")

    def test_figures_tables_and_main_ones(self):
        for told, place in (("1[f]", figure(12)), ("1[t]", table(12)), ("1!", main(12)), ("xii[f]", figure(11)),
                            ("A.150[t]", table(1461)), ("qz!", main(1487)), ("XXX[t]", table(1551))):
            self.right(told, place)

    def test_several_marks(self):
        marks = ("!", "[f]", "[t]", "[n1]", "[n2]")
        self.refused(*[told + first + second for told in ("1", "i", "A.1") for first in marks for second in marks])
        self.refused("1[f]!!", "1!!!", "1[n1][n1][n1]", "1[ft]", "1[f,t]", "1[n1f]", "1[f!]", "1[!]")

    def test_marks_behind_a_stretch(self):
        self.right("1-2!", main(12, 13))
        self.right("i-ii!", main(0, 1))
        self.refused(*[told + mark for told in ("1-2", "101-8", "A.1-A.2", "i-ii", "qa-qb")
                       for mark in ("[f]", "[t]", "[n1]", "[n16777215]", "!!", "![f]", "[f]!", "[n1]!")])

    def test_marks_within_a_stretch(self):
        self.refused("1!-2", "1[f]-2", "1[n1]-2", "1[t]-2[t]", "1!-2!", "1-!2", "!1", "[f]1", "[n1]1", "[t]1-2")

    def test_marks_in_capitals(self):
        self.refused("1[N1]", "1[F]", "1[T]", "i[F]", "i[N1]", "I[T]")

    def test_other_marks(self):
        self.refused("1[a]", "1[]", "1[n]", "1[1]", "1[x1]", "1[f1]", "1[t1]", "1[nn1]", "1?", "1*", "1(f)", "1{f}",
                     "1.!", "1 !", "1 [f]", "1[ f]", "1[f ]", "1[f] ")

    def test_a_bracket_missing(self):
        self.refused("1[f", "1f]", "1[t", "1t]", "1[n1", "1n1]", "1[n", "1n]", "1[", "1]", "1n1", "1f", "1[[f]",
                     "1[f]]", "1[n1]]", "1[[n1]", "1]f[")

    def test_marks_alone(self):
        self.refused("!", "[f]", "[t]", "[n1]", "[", "]", "[]", "[n]", "!!")


class BytesTest(ReadCase):
    RIGHT = ("1", "iv", "A.12", "qaa", "XXX", "A.iv", "101-8", "A.8-A.12", "i-iv", "qa-qz!", "12!", "12[f]", "iv[t]",
             "A.12[n12]", "1200[n1677721]")

    def test_no_bytes(self):
        self.refused("")
        self.assertEqual(ask(read("")), [[-3]])

    def test_one_byte(self):
        model = ModelReader(RUNS)
        for byte in range(256):
            self.assertEqual(read_all([[byte]]), [model.read(chr(byte))], byte)

    def test_bytes_that_no_name_has(self):
        for told in self.RIGHT:
            for byte in (0, 9, 10, 13, 34, 47, 58, 63, 64, 92, 95, 96, 124, 127, 128, 173, 178, 185, 223, 255):
                row = [ord(sign) for sign in told]
                rows = [row[:position] + [byte] + row[position:] for position in range(len(row) + 1)]
                rows += [row[:position] + [byte] + row[position + 1:] for position in range(len(row))]
                self.assertEqual(read_all(rows), [None] * len(rows))

    def test_a_comma_or_a_blank_within(self):
        for told in self.RIGHT:
            self.refused(*[told[:position] + sign + told[position:] for position in range(len(told) + 1)
                           for sign in (",", " ", ", ")])

    def test_every_byte_before_behind_and_within(self):
        model = ModelReader(RUNS)
        for told in self.RIGHT:
            self.assertIsNotNone(model.read(told))
            texts = [told[:position] + chr(byte) + told[position:] for position in range(len(told) + 1)
                     for byte in range(256)]
            texts += [told[:position] + told[position + 1:] for position in range(len(told))]
            self.assertEqual(read_all(texts), [model.read(text) for text in texts])

    def test_rows_of_1000_bytes(self):
        self.refused("1" * 1000, "i" * 1000, "-" * 1000, "[" * 1000, "!" * 1000, "1-" + "0" * 998, "0" * 999 + "1",
                     "1[n" + "1" * 996 + "]", "1[n1]" + "]" * 995, [255] * 1000, "A." * 500, "1" + " " * 999)

    def test_a_book_without_pages(self):
        self.assertEqual(ask(read("1"), read("i"), read("1-2"), read("1!")), [[-3]] * 4)
        self.assertEqual(ask(run(0, 1, 9), read("1"), begin(1), read("1"))[1:], [[0, 0, 0, 0, 0, 0], [0, 0], [-3]])


class ModelTest(unittest.TestCase):
    def random_text(self, source):
        names = ("1", "9", "10", "99", "101", "110", "1199", "1200", "1201", "1299", "A.1", "A.99", "A.149", "i", "xi",
                 "qa", "qz", "I", "XXX", "A.i", "8", "08", "008", "200", "300", "A.150", "150", "0", "")
        pieces = [source.choice(names)]
        if source.random() < 0.7:
            pieces += ["-", source.choice(names)]
        pieces += [source.choice(("", "", "", "!", "[f]", "[t]", "[n1]", "[n16777215]", "[n16777216]", "[n01]"))]
        if source.random() < 0.2:
            pieces.insert(source.randrange(len(pieces) + 1), source.choice(tuple("-![],  .0n1")))
        return "".join(pieces)

    def test_random_texts_are_read_as_by_the_model(self):
        source = random.Random(7)
        model = ModelReader(RUNS)
        texts = [self.random_text(source) for _ in range(6000)]
        expected = [model.read(told) for told in texts]
        self.assertGreater(sum(place is not None for place in expected), 1000)
        self.assertGreater(expected.count(None), 1000)
        for way in WAYS:
            self.assertEqual(read_all(texts, way), expected)

    def test_all_pairs_of_numbers(self):
        for first, count in ((1, 115), (985, 30)):
            told = (0, first, count, "")
            model = ModelReader((told,))
            texts = [f"{start}-{end}" for start in range(first, first + count)
                     for end in list(range(130)) + list(range(980, 1020)) + ["00", "01", "09", "001", "015", "0001"]]
            answered = ask_behind([run(*told)], [read(text) for text in texts])
            expected = [model.read(text) for text in texts]
            self.assertEqual([None if answer == [-3] else tuple(answer[1:]) for answer in answered], expected)


class ReadBackTest(unittest.TestCase):
    """B2, over all pairs of pages of some runs of each style."""

    RUNS = ((0, 1, 35, ""), (0, 85, 40, ""), (0, 985, 30, ""), (0, 99975, 25, ""), (0, 1, 25, "A."), (0, 92, 30, "x"),
            (0, 9985, 30, "...."), (1, 1, 25, ""), (1, 85, 25, "B."), (2, 1, 25, ""), (2, 385, 25, "c"),
            (3, 1, 30, ""), (3, 680, 23, "..Q"))

    def places(self, start, count):
        pairs = [(first, second) for first in range(start, start + count) for second in range(first, start + count)]
        places = [place for pair in pairs for place in (plain(*pair), main(*pair))]
        for index in range(start, start + count):
            places += [note(index, number) for number in (1, 10, 16777215)] + [figure(index), table(index)]
        return places

    def read_back(self, calls, places):
        texts = {}
        for way in WAYS:
            written = ask_behind([begin(way)] + calls, [write(*place) for place in places])
            self.assertTrue(all(answer[0] == 0 for answer in written))
            for place, answer in zip(places, written):
                told = as_text(answer)
                self.assertEqual(texts.setdefault(told, place), place, "two places have one text")
        for way in WAYS:
            answered = ask_behind([begin(way)] + calls, [read(told) for told in texts])
            self.assertEqual([tuple(answer) for answer in answered], [(0,) + place for place in texts.values()])

    def test_each_run_alone(self):
        for told in self.RUNS:
            self.read_back([run(*told)], self.places(0, told[2]))

    def test_runs_of_one_book(self):
        runs = ((1, 1, 8, ""), (0, 95, 12, ""), (0, 107, 12, ""), (0, 95, 12, "A."), (3, 1, 8, "A."), (2, 5, 6, ""))
        places = []
        start = 0
        for told in runs:
            places += self.places(start, told[2])
            start += told[2]
        self.read_back([run(*told) for told in runs], places)

    def test_longest_stretches(self):
        for told in ((0, 1, 65536, "Zz.a"), (0, 34464, 65536, ""), (1, 1, 3999, ""), (2, 1, 3999, "M.M."),
                     (3, 1, 702, "")):
            source = random.Random(told[2])
            places = []
            for _ in range(300):
                pair = sorted((source.randrange(told[2]), source.randrange(told[2])))
                places += [plain(*pair), main(*pair)]
            self.read_back([run(*told)], sorted(set(places + [plain(0, told[2] - 1), main(0, told[2] - 1)])))

    def test_answers_are_five_numbers_behind_0(self):
        told = flat(ask(run(0, 101, 9), read("101-8!"), read("109[n7]"))[1:])
        self.assertEqual(told, [0, 0, 7, 0, 1, 0, 0, 8, 8, 1, 0, 7])
        self.assertEqual(as_places(last(run(0, 101, 9), read("101-08"))), [plain(0, 7)])
