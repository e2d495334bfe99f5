import random
import unittest

from tests.helper import (MOST_NUMBER, RULES, WAYS, ask, ask_behind, begin, figure, has, last, main, note, pages_of,
                          plain, random_place, run, table)

BOOK = (run(1, 1, 12), run(0, 1, 100), run(0, 101, 50))
SPANS = ((0, 11), (12, 111), (112, 161))


def found(index, places):
    return last(*BOOK, has(index, places))


class HasTest(unittest.TestCase):
    def test_the_first_of_several(self):
        places = [plain(20, 30), plain(10), plain(25, 40), main(30, 50), plain(30)]
        for index, number in ((20, 0), (25, 0), (30, 0), (31, 2), (40, 2), (41, 3), (50, 3), (10, 1)):
            self.assertEqual(found(index, places), [0, number])

    def test_the_list_is_not_ordered_joined_or_dropped(self):
        places = [figure(25), plain(40, 45), note(25, 1), plain(20, 30), plain(19, 26)]
        for joins, drops in RULES:
            for way in WAYS:
                answered = ask(begin(way, joins, drops), *BOOK, has(25, places), has(19, places), has(26, places))
                self.assertEqual(answered[-3:], [[0, 0], [0, 4], [0, 3]])

    def test_from_and_to_one_before_and_one_behind(self):
        for make in (plain, main):
            for start, end in ((20, 30), (20, 20), (12, 111), (0, 11), (112, 161)):
                self.assertEqual(found(start, [make(start, end)]), [0, 0])
                self.assertEqual(found(end, [make(start, end)]), [0, 0])
                self.assertEqual(found(end + 1, [make(start, end)]), [-3])
                if start > 0:
                    self.assertEqual(found(start - 1, [make(start, end)]), [-3])

    def test_notes_figures_and_tables(self):
        for place in (note(20, 1), figure(20), table(20)):
            self.assertEqual(found(20, [plain(21, 30), place, plain(20)]), [0, 1])
            self.assertEqual(found(19, [place]), [-3])
            self.assertEqual(found(21, [place]), [-3])

    def test_an_index_that_is_not_a_page(self):
        for index in (162, 163, 65536, MOST_NUMBER):
            self.assertEqual(found(index, [plain(112, 161), plain(0, 11)]), [-3])

    def test_no_places(self):
        for index in (0, 161, 162, MOST_NUMBER):
            self.assertEqual(found(index, []), [-3])
        self.assertEqual(last(has(0, [])), [-3])

    def test_the_last_of_256(self):
        self.assertEqual(found(20, [plain(21)] * 255 + [plain(20)]), [0, 255])
        self.assertEqual(found(20, [plain(20)] * 256), [0, 0])
        self.assertEqual(found(22, [plain(21)] * 256), [-3])

    def test_every_index_by_the_model(self):
        source = random.Random(41)
        for _ in range(40):
            places = [random_place(source, SPANS) for _ in range(source.randint(0, 30))]
            answered = ask_behind([*BOOK], [has(index, places) for index in range(165)])
            for index, answer in enumerate(answered):
                numbers = [number for number, place in enumerate(places) if index in pages_of(place)]
                self.assertEqual(answer, [0, numbers[0]] if numbers else [-3])


class RefusedTest(unittest.TestCase):
    WRONG = (plain(162), plain(161, 162), plain(21, 20), plain(11, 12), plain(111, 112), (20, 20, 4, 0, 0),
             (20, 21, 1, 0, 1), (20, 21, 2, 0, 0), (20, 20, 3, 1, 0), note(20, 0), note(20, 16777216),
             (20, 20, 0, 0, 1), (20, 20, 2, 0, 1), plain(MOST_NUMBER))

    def test_more_than_256(self):
        for count in (257, 258, 300):
            self.assertEqual(found(20, [plain(20)] * count), [-1])

    def test_one_that_is_not_right(self):
        for wrong in self.WRONG:
            for position in (0, 5, 9):
                places = [plain(20)] * 10
                places[position] = wrong
                self.assertEqual(found(20, places), [-2], (position, wrong))

    def test_a_place_that_has_the_page_does_not_help(self):
        self.assertEqual(found(20, [plain(20), plain(162)]), [-2])
        self.assertEqual(found(20, [plain(20)] * 255 + [plain(162)]), [-2])

    def test_of_several_the_first_told(self):
        self.assertEqual(found(20, [plain(162)] * 257), [-1])
        self.assertEqual(found(20, [plain(20)] * 256 + [plain(162)]), [-1])
        self.assertEqual(found(30, [plain(20)] * 257), [-1])
        self.assertEqual(found(30, [plain(20), plain(162)]), [-2])
        self.assertEqual(found(162, [plain(162)]), [-2])
        self.assertEqual(found(MOST_NUMBER, [plain(162)] * 300), [-1])
        self.assertEqual(last(has(0, [plain(0)])), [-2])
