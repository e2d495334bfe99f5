import random
import unittest

from headplaces.session import Session
from tests.helper import (RULES, WAYS, ModelReader, ask_behind, as_places, as_text, begin, figure, form, last,
                          list_told, main, note, plain, random_place, run, table, text)

RUNS = ((1, 1, 12, ""), (0, 95, 100, ""), (0, 1, 60, "A."), (3, 1, 40, "q"), (0, 1, 9, ""))
BOOK = tuple(run(*told) for told in RUNS)
SPANS = ((0, 11), (12, 111), (112, 171), (172, 211), (212, 220))


def listed(told, way=0):
    return as_places(last(begin(way), *BOOK, list_told(told)))


class ListTest(unittest.TestCase):
    def test_no_bytes(self):
        for way in WAYS:
            self.assertEqual(last(begin(way), *BOOK, list_told("")), [0])
        self.assertEqual(last(list_told("")), [0])

    def test_one_place(self):
        for way in WAYS:
            for told, place in (("i", plain(0)), ("101-8", plain(18, 25)), ("101-108!", main(18, 25)),
                                ("95[n40]", note(12, 40)), ("194[f]", figure(111)), ("A.1[t]", table(112))):
                self.assertEqual(listed(told, way), [place])

    def test_several_in_the_order_of_the_text(self):
        for way in WAYS:
            self.assertEqual(listed("qb, 101-08, i!, 101-8, i-xii, i, A.7[n2], A.7[n1], qb", way),
                             [plain(173), plain(18, 25), main(0), plain(18, 25), plain(0, 11), plain(0), note(118, 2),
                              note(118, 1), plain(173)])

    def test_nothing_is_joined_or_dropped(self):
        for joins, drops in RULES:
            answer = last(begin(0, joins, drops), *BOOK, list_told("ii, i-iii, iii, iii[f], iii[f], i"))
            self.assertEqual(as_places(answer), [plain(1), plain(0, 2), plain(2), figure(2), figure(2), plain(0)])

    def test_answer_is_numbers_behind_0(self):
        self.assertEqual(last(*BOOK, list_told("i-ii!, i[n3]")), [0, 0, 1, 0, 1, 0, 0, 0, 1, 0, 3])


class NotAPlaceTest(unittest.TestCase):
    def refused(self, told, number):
        for way in WAYS:
            self.assertEqual(last(begin(way), *BOOK, list_told(told)), [-3, number], told)

    def test_one_part(self):
        for told in ("0", "a", "xiii", "i-", "i-i", "[f]", "i[f]!", "i-ii[f]", "-", "?", "\n", "i\n", "i[n0]"):
            self.refused(told, 0)

    def test_the_first_of_several(self):
        for number in range(6):
            parts = ["i", "101-8", "A.1!", "qa[f]", "i", "ii"]
            parts[number] = "xiii"
            self.refused(", ".join(parts), number)
            self.refused(", ".join(parts + ["xiii", "0"]), number)
            self.refused(", ".join(parts[:number + 1] + ["0"] * 5), number)

    def test_a_comma_without_a_blank(self):
        self.refused("i,ii", 0)
        self.refused("i, ii,iii", 1)
        self.refused("i,", 0)
        self.refused(",i", 0)
        self.refused(",", 0)
        self.refused("i, ii,", 1)
        self.refused("1,2", 0)
        self.refused("A.1[n1,2]", 0)

    def test_two_commas(self):
        self.refused("i,, ii", 0)
        self.refused("i, ,ii", 1)
        self.refused(",,", 0)
        self.refused("i, ii,, iii", 1)

    def test_a_blank_before_a_comma(self):
        self.refused("i , ii", 0)
        self.refused("i, ii , iii", 1)
        self.refused("i ,ii", 0)

    def test_blanks(self):
        self.refused(" ", 0)
        self.refused(" i", 0)
        self.refused("i ", 0)
        self.refused("i ii", 0)
        self.refused("i,  ii", 1)
        self.refused("i, ii ", 1)
        self.refused("i,\tii", 0)
        self.refused("i,\nii", 0)

    def test_a_comma_and_a_blank_at_the_beginning(self):
        self.refused(", i", 0)
        self.refused(", , i", 0)
        self.refused(", 0", 0)

    def test_a_comma_and_a_blank_at_the_end(self):
        self.refused("i, ", 1)
        self.refused("i, ii, ", 2)
        self.refused("i, , ", 1)

    def test_a_comma_and_a_blank_twice(self):
        self.refused("i, , ii", 1)
        self.refused("i, ii, , iii", 2)

    def test_a_comma_and_a_blank_alone(self):
        self.refused(", ", 0)
        self.refused(", , ", 0)

    def test_other_signs_between(self):
        for told in ("i; ii", "i. ii", "i and ii", "i/ii", "i\tii", [105, 44, 160, 105], [105, 172, 32, 105],
                     [105, 0, 105], [105, 44, 0, 105]):
            self.refused(told, 0)

    def test_a_book_without_pages(self):
        self.assertEqual(last(list_told("1")), [-3, 0])
        self.assertEqual(last(list_told(", ")), [-3, 0])


class HowManyTest(unittest.TestCase):
    def test_256_and_257_places(self):
        for way in WAYS:
            for count in (255, 256):
                self.assertEqual(listed(", ".join(["i"] * count), way), [plain(0)] * count)
            for count in (257, 258, 300, 1000):
                self.assertEqual(listed(", ".join(["i"] * count), way), [-4])

    def test_256_different_places(self):
        parts = [f"i[n{number}]" for number in range(1, 258)]
        self.assertEqual(listed(", ".join(parts[:256])), [note(0, number) for number in range(1, 257)])
        self.assertEqual(listed(", ".join(parts)), [-4])

    def test_all_parts_are_looked_at_before_they_are_counted(self):
        for count in (257, 258, 300, 5000):
            for number in {0, 128, 255, 256, count - 2, count - 1}:
                parts = ["i"] * count
                parts[number] = "0"
                self.assertEqual(listed(", ".join(parts)), [-3, number])
            self.assertEqual(listed(", ".join(["i"] * count) + ", "), [-3, count])

    def test_a_row_of_30900_bytes(self):
        self.assertEqual(listed("i" * 30900), [-3, 0])
        self.assertEqual(listed("1" * 30900), [-3, 0])
        self.assertEqual(listed("i[n" + "1" * 30896 + "]"), [-3, 0])
        self.assertEqual(listed("i-" + "9" * 30898), [-3, 0])
        self.assertEqual(listed("1-" + "9" * 30898), [-3, 0])
        self.assertEqual(listed(", " * 15450), [-3, 0])
        self.assertEqual(listed([44] * 30900), [-3, 0])
        self.assertEqual(listed([255] * 30900), [-3, 0])
        many = "i, " * 10299 + "i-x"
        self.assertEqual(len(many), 30900)
        self.assertEqual(listed(many), [-4])
        self.assertEqual(listed(many[:-1]), [-3, 10299])
        self.assertEqual(listed("i, " * 10300), [-3, 10300])

    def test_more_than_32768_bytes(self):
        session = Session()
        session.run(1, 1, 12, [])
        most = [ord(sign) for sign in "i, " * 10922 + "ii"]
        self.assertEqual(len(most), 32768)
        self.assertEqual(session.places_told(most), [-4])
        self.assertEqual(session.places_told(most + [105]), [-1])
        self.assertEqual(session.places_told([0] * 32768), [-3, 0])
        self.assertEqual(session.places_told([0] * 32769), [-1])


class ReadBackTest(unittest.TestCase):
    """B2, of lists: what was put in is found, whatever the way."""

    def random_lists(self, seed):
        source = random.Random(seed)
        return [[random_place(source, SPANS) for _ in range(source.choice((0, 1, 2, 3, 10, 40)))] for _ in range(60)]

    def read_back(self, lists):
        for way in WAYS:
            texts = [as_text(answer) for answer in ask_behind([begin(way), *BOOK], [text(one) for one in lists])]
            for own in WAYS:
                answered = ask_behind([begin(own, 1, 1), *BOOK], [list_told(told) for told in texts])
                self.assertEqual([as_places(answer) for answer in answered], lists)

    def test_lists(self):
        self.read_back(self.random_lists(31))

    def test_forms(self):
        for joins, drops in RULES:
            calls = [begin(0, joins, drops), *BOOK]
            self.read_back([as_places(answer) for answer in
                            ask_behind(calls, [form(places) for places in self.random_lists(32)])])

    def test_256_places(self):
        source = random.Random(33)
        self.read_back([[random_place(source, SPANS) for _ in range(256)] for _ in range(3)])

    def test_longest_texts(self):
        calls = (run(1, 3888, 12, "A.x."), run(2, 3888, 12, "B.x."))
        places = [plain(0, 11), main(12, 23), note(11, 16777215), plain(0, 5)] * 64
        for way in WAYS:
            told = last(begin(way), *calls, text(places))[1:]
            self.assertEqual(as_places(last(*calls, list_told(told))), places)


class ModelTest(unittest.TestCase):
    def model(self, reader, told):
        parts = told.split(", ") if told else []
        places = [reader.read(part) for part in parts]
        if None in places:
            return [-3, places.index(None)]
        return [-4] if len(places) > 256 else places

    def test_texts_with_a_sign_changed(self):
        source = random.Random(34)
        reader = ModelReader(RUNS)
        texts = []
        for _ in range(3000):
            row = [source.choice(("i", "ix", "101-8", "101-08", "A.1-2!", "qa-qz", "95[n1]", "A.1[t]", "i[f]", "5-7"))
                   for _ in range(source.randint(1, 6))]
            told = ", ".join(row)
            position = source.randrange(len(told) + 1)
            texts.append(told[:position] + source.choice(("", "", ",", " ", ", ", "!", "-", "1", "x", "["))
                         + told[position + source.choice((0, 0, 1, 2)):])
        answered = [as_places(answer) for answer in ask_behind([*BOOK], [list_told(told) for told in texts])]
        expected = [self.model(reader, told) for told in texts]
        self.assertEqual(answered, expected)
        self.assertGreater(sum(found[:1] == [-3] for found in expected), 500)
        self.assertGreater(sum(found[:1] != [-3] for found in expected), 500)
