import random
import unittest
from itertools import permutations

from tests.helper import (MOST_NOTE, MOST_NUMBER, RULES, ask_behind, as_places, begin, figure, form, last, main,
                          model_form, note, pages_by_kinds, plain, random_place, run, table, text)

BOOK = (run(1, 1, 10), run(0, 1, 40), run(0, 41, 30), run(3, 1, 20, "q"))
BOUNDS = (0, 10, 50, 80)
SPANS = ((0, 9), (10, 49), (50, 79), (80, 99))


def formed(places, joins=0, drops=0, way=0):
    return as_places(last(begin(way, joins, drops), *BOOK, form(places)))


class FormCase(unittest.TestCase):
    def same_by_all_rules(self, places, expected):
        for joins, drops in RULES:
            self.assertEqual(formed(places, joins, drops), expected, (joins, drops, places))

    def by_joins(self, places, apart, together):
        """The forms without and with joins, whatever the order of what is handed over."""
        for drops in (0, 1):
            for row in permutations(places):
                self.assertEqual(formed(list(row), 0, drops), apart, row)
                self.assertEqual(formed(list(row), 1, drops), together, row)

    def by_drops(self, places, kept, left):
        for joins in (0, 1):
            for row in permutations(places):
                self.assertEqual(formed(list(row), joins, 0), kept, row)
                self.assertEqual(formed(list(row), joins, 1), left, row)


class JoinedTest(FormCase):
    KINDS = (plain, main)

    def test_no_places(self):
        self.same_by_all_rules([], [])
        self.assertEqual(last(form([])), [0])

    def test_one_place(self):
        for place in (plain(0), plain(0, 9), main(10, 49), main(99), note(5, 1), note(5, MOST_NOTE), figure(50),
                      table(79)):
            self.same_by_all_rules([place], [place])

    def test_one_page_in_common(self):
        for make in self.KINDS:
            self.by_joins([make(12, 15), make(15, 18)], [make(12, 18)], [make(12, 18)])
            self.by_joins([make(12, 15), make(15)], [make(12, 15)], [make(12, 15)])
            self.by_joins([make(12), make(12, 15)], [make(12, 15)], [make(12, 15)])

    def test_one_in_another(self):
        for make in self.KINDS:
            self.by_joins([make(12, 30), make(15, 18)], [make(12, 30)], [make(12, 30)])
            self.by_joins([make(12, 30), make(15)], [make(12, 30)], [make(12, 30)])
            self.by_joins([make(12, 30), make(12, 18)], [make(12, 30)], [make(12, 30)])
            self.by_joins([make(12, 30), make(18, 30)], [make(12, 30)], [make(12, 30)])
            self.by_joins([make(12, 30), make(13, 14), make(20, 29)], [make(12, 30)], [make(12, 30)])
            self.by_joins([make(12, 30), make(13, 14), make(29, 33)], [make(12, 33)], [make(12, 33)])

    def test_two_alike(self):
        for make in self.KINDS:
            self.by_joins([make(12, 15), make(12, 15)], [make(12, 15)], [make(12, 15)])
            self.by_joins([make(12), make(12), make(12)], [make(12)], [make(12)])

    def test_side_by_side_in_one_run(self):
        for make in self.KINDS:
            self.by_joins([make(12, 15), make(16, 18)], [make(12, 15), make(16, 18)], [make(12, 18)])
            self.by_joins([make(12), make(13)], [make(12), make(13)], [make(12, 13)])
            self.by_joins([make(10), make(11, 49)], [make(10), make(11, 49)], [make(10, 49)])
            self.by_joins([make(0), make(1), make(3)], [make(0), make(1), make(3)], [make(0, 1), make(3)])

    def test_side_by_side_in_two_runs(self):
        for make in self.KINDS:
            for places in ([make(5, 9), make(10, 12)], [make(9), make(10)], [make(49), make(50)],
                           [make(10, 49), make(50, 79)], [make(79), make(80, 99)]):
                self.by_joins(places, places, places)
            apart = [make(8), make(9), make(10), make(11)]
            self.by_joins(apart, apart, [make(8, 9), make(10, 11)])

    def test_one_page_between(self):
        for make in self.KINDS:
            places = [make(12, 15), make(17, 18)]
            self.by_joins(places, places, places)

    def test_chains_of_which_each_joins_the_next_only(self):
        for make in self.KINDS:
            overlapping = [make(12, 15), make(15, 18), make(18, 21), make(21, 24), make(24, 27)]
            self.by_joins(overlapping, [make(12, 27)], [make(12, 27)])
            beside = [make(12, 15), make(16, 18), make(19), make(20, 24)]
            self.by_joins(beside, beside, [make(12, 24)])
            mixed = [make(12, 15), make(15, 18), make(19, 21), make(21, 22)]
            self.by_joins(mixed, [make(12, 18), make(19, 22)], [make(12, 22)])

    def test_long_chains_in_any_order(self):
        source = random.Random(3)
        for make in self.KINDS:
            overlapping = [make(index, index + 1) for index in range(10, 49)]
            beside = [make(index) for index in range(10, 50)]
            for _ in range(20):
                source.shuffle(overlapping)
                source.shuffle(beside)
                self.assertEqual(formed(overlapping, 0), [make(10, 49)])
                self.assertEqual(formed(overlapping, 1), [make(10, 49)])
                self.assertEqual(formed(beside, 0), sorted(beside))
                self.assertEqual(formed(beside, 1), [make(10, 49)])

    def test_main_and_plain_ones_are_not_joined(self):
        self.by_joins([plain(12, 15), main(14, 18)], [plain(12, 15), main(14, 18)], [plain(12, 15), main(14, 18)])
        self.by_joins([plain(12, 15), main(12, 15)], [main(12, 15), plain(12, 15)], [main(12, 15), plain(12, 15)])
        self.by_joins([plain(12, 15), main(16, 18)], [plain(12, 15), main(16, 18)], [plain(12, 15), main(16, 18)])
        self.by_joins([plain(12), main(13), plain(14)], [plain(12), main(13), plain(14)],
                      [plain(12), main(13), plain(14)])
        self.by_joins([plain(12, 20), main(14), plain(21, 30), main(15)],
                      [plain(12, 20), main(14), main(15), plain(21, 30)], [plain(12, 30), main(14, 15)])

    def test_others_join_nothing(self):
        for other in (note(16, 1), figure(16), table(16)):
            places = [plain(12, 15), other, plain(17, 18)]
            self.by_joins(places, places, places)


class OthersTest(FormCase):
    def test_notes_with_one_number(self):
        self.same_by_all_rules([note(12, 5)] * 3, [note(12, 5)])
        self.same_by_all_rules([note(13, 5), note(12, 5), note(13, 5)], [note(12, 5), note(13, 5)])

    def test_notes_with_several_numbers(self):
        self.same_by_all_rules([note(12, 10), note(12, 9), note(12, MOST_NOTE), note(12, 1), note(12, 9)],
                               [note(12, 1), note(12, 9), note(12, 10), note(12, MOST_NOTE)])

    def test_figures_and_tables_twice(self):
        self.same_by_all_rules([figure(12), table(12), figure(12), table(12)], [figure(12), table(12)])
        self.same_by_all_rules([table(13), figure(13), table(12), table(13)], [table(12), figure(13), table(13)])

    def test_side_by_side_they_stay(self):
        for make in (figure, table, lambda index: note(index, 1)):
            places = [make(12), make(13), make(14)]
            self.same_by_all_rules(places, places)


class DroppedTest(FormCase):
    OTHERS = (note(14, 3), figure(14), table(14))

    def test_on_the_first_a_middle_and_the_last_page(self):
        for make in (plain, main):
            for other in self.OTHERS:
                for first, second in ((14, 20), (12, 20), (10, 14), (14, 14), (13, 15)):
                    kept = sorted([make(first, second), other], key=lambda place: (place[0], place[2]))
                    self.by_drops([make(first, second), other], kept, [make(first, second)])

    def test_just_beside(self):
        for make in (plain, main):
            for other in self.OTHERS:
                self.by_drops([make(10, 13), other], [make(10, 13), other], [make(10, 13), other])
                self.by_drops([other, make(15, 20)], [other, make(15, 20)], [other, make(15, 20)])
                both = [make(10, 13), other, make(15, 20)]
                self.by_drops(both, both, both)

    def test_another_run(self):
        self.by_drops([plain(5, 9), note(10, 1)], [plain(5, 9), note(10, 1)], [plain(5, 9), note(10, 1)])
        self.by_drops([figure(49), main(50, 60)], [figure(49), main(50, 60)], [figure(49), main(50, 60)])

    def test_several_at_once(self):
        places = [plain(12, 15), note(12, 1), note(12, 2), figure(13), table(15)]
        self.by_drops(places, places, [plain(12, 15)])
        self.by_drops([main(12), plain(14), note(12, 1), figure(13), table(14)],
                      [main(12), note(12, 1), figure(13), plain(14), table(14)],
                      [main(12), figure(13), plain(14)])

    def test_plain_and_main_ones_drop_nothing_of_one_another(self):
        self.by_drops([plain(12, 20), main(14)], [plain(12, 20), main(14)], [plain(12, 20), main(14)])
        self.by_drops([main(12, 20), plain(14)], [main(12, 20), plain(14)], [main(12, 20), plain(14)])

    def test_others_drop_nothing(self):
        places = [note(12, 1), note(12, 2), figure(12), table(12)]
        self.by_drops(places, places, places)

    def test_pages_between_joined_ones(self):
        self.assertEqual(formed([plain(12, 13), plain(14, 15), note(13, 1), note(14, 1)], 1, 1), [plain(12, 15)])
        self.assertEqual(formed([plain(12, 13), plain(15), note(14, 1)], 1, 1),
                         [plain(12, 13), note(14, 1), plain(15)])


class OrderTest(FormCase):
    def test_by_from_then_by_kind_then_by_note(self):
        source = random.Random(5)
        order = []
        for index in (3, 12, 60, 99):
            order += [main(index), plain(index), note(index, 2), note(index, 10), note(index, MOST_NOTE),
                      figure(index), table(index)]
        for _ in range(20):
            row = source.sample(order, len(order))
            self.assertEqual(formed(row), order)
            self.assertEqual(formed(row, 1), order)

    def test_from_goes_ahead_of_the_kind(self):
        for first in (plain(12), note(12, 9), figure(12), table(12), main(12)):
            for second in (main(14), plain(14), note(14, 1), figure(14), table(14)):
                self.same_by_all_rules([second, first], [first, second])

    def test_to_does_not_count(self):
        self.same_by_all_rules([plain(12, 13), main(12, 40)], [main(12, 40), plain(12, 13)])
        self.same_by_all_rules([plain(12, 40), main(12, 13)], [main(12, 13), plain(12, 40)])


class RulesTest(unittest.TestCase):
    PLACES = [plain(12), plain(13), note(12, 1)]
    BY_RULES = {(0, 0): [plain(12), note(12, 1), plain(13)], (0, 1): [plain(12), plain(13)],
                (1, 0): [plain(12, 13), note(12, 1)], (1, 1): [plain(12, 13)]}

    def test_each_rule_by_itself_and_whatever_the_way(self):
        for way in range(5):
            for joins, drops in RULES:
                self.assertEqual(formed(self.PLACES, joins, drops, way), self.BY_RULES[joins, drops])

    def test_a_new_object_neither_joins_nor_drops(self):
        self.assertEqual(as_places(last(*BOOK, form(self.PLACES))), self.BY_RULES[0, 0])

    def test_begin_changes_the_rules_and_a_refused_one_does_not(self):
        for old in RULES:
            for new in RULES:
                calls = (begin(0, *old), *BOOK, begin(0, *new), *BOOK)
                self.assertEqual(as_places(last(*calls, form(self.PLACES))), self.BY_RULES[new])
                for bad in (begin(5, *new), begin(1, 2, new[1]), begin(1, new[0], 2), begin(MOST_NUMBER, *new)):
                    calls = (begin(0, *old), *BOOK, bad)
                    self.assertEqual(as_places(last(*calls, form(self.PLACES))), self.BY_RULES[old])


class RefusedTest(unittest.TestCase):
    """The refusals 1 and 2, which text has too."""

    WRONG = (plain(100), plain(99, 100), plain(13, 12), plain(9, 10), plain(MOST_NUMBER), (12, 12, 4, 0, 0),
             (12, 12, MOST_NUMBER, 0, 0), (12, 13, 1, 0, 1), (12, 13, 2, 0, 0), (12, 13, 3, 0, 0), (12, 12, 1, 1, 1),
             (12, 12, 2, 1, 0), (12, 12, 3, 1, 0), note(12, 0), note(12, MOST_NOTE + 1), (12, 12, 0, 0, 1),
             (12, 13, 0, 1, 1), (12, 12, 2, 0, 1), (12, 12, 3, 0, 1))

    def answer(self, call, places):
        return last(*BOOK, call(places))

    def test_256_places_and_257(self):
        places = [note(index % 100, 1 + index // 100) for index in range(300)]
        for call in (form, text):
            for count in (255, 256):
                self.assertEqual(self.answer(call, places[:count])[0], 0)
            for count in (257, 258, 299, 300):
                self.assertEqual(self.answer(call, places[:count]), [-1])
        self.assertEqual(len(as_places(self.answer(form, places[:256]))), 256)

    def test_256_and_257_alike(self):
        self.assertEqual(as_places(self.answer(form, [plain(12)] * 256)), [plain(12)])
        self.assertEqual(self.answer(form, [plain(12)] * 257), [-1])

    def test_one_that_is_not_right(self):
        good = [plain(12, 14), main(0, 9), note(50, 1), figure(80), table(99)] * 5
        for wrong in self.WRONG:
            for call in (form, text):
                self.assertEqual(self.answer(call, [wrong]), [-2])
                for position in (0, 12, 24):
                    places = good[:position] + [wrong] + good[position + 1:]
                    self.assertEqual(self.answer(call, places), [-2], (position, wrong))

    def test_one_that_is_not_right_among_256(self):
        for call in (form, text):
            for position in (0, 1, 128, 254, 255):
                places = [plain(12)] * 256
                places[position] = plain(100)
                self.assertEqual(self.answer(call, places), [-2])

    def test_1_ahead_of_2(self):
        for call in (form, text):
            for position in (0, 128, 256):
                places = [plain(12)] * 257
                places[position] = plain(100)
                self.assertEqual(self.answer(call, places), [-1])
            self.assertEqual(self.answer(call, [plain(100)] * 300), [-1])

    def test_a_book_without_pages(self):
        for call in (form, text):
            self.assertEqual(last(call([plain(0)])), [-2])
            self.assertEqual(last(call([])), [0])
            self.assertEqual(last(call([plain(0)] * 257)), [-1])


class ModelTest(unittest.TestCase):
    def random_lists(self, seed, count):
        source = random.Random(seed)
        for _ in range(count):
            spans = source.choice((SPANS, SPANS[:1], ((5, 9), (10, 14)), ((12, 22),)))
            yield source, [random_place(source, spans) for _ in range(source.choice((1, 2, 3, 5, 8, 13, 25)))]

    def forms(self, joins, drops, lists):
        queries = [form(places) for places in lists]
        return [as_places(answer) for answer in ask_behind([begin(0, joins, drops), *BOOK], queries)]

    def test_as_the_model(self):
        lists = [places for source, places in self.random_lists(11, 1500)]
        for joins, drops in RULES:
            expected = [model_form(BOUNDS, joins, drops, places) for places in lists]
            self.assertEqual(self.forms(joins, drops, lists), expected)

    def test_the_form_of_a_form_is_itself(self):
        lists = [places for source, places in self.random_lists(12, 800)]
        for joins, drops in RULES:
            once = self.forms(joins, drops, lists)
            self.assertEqual(self.forms(joins, drops, once), once)

    def test_another_order_and_places_twice(self):
        lists = []
        others = []
        for source, places in self.random_lists(13, 800):
            lists.append(places)
            others.append(source.sample(places, len(places)) + source.sample(places, len(places) // 2))
        for joins, drops in RULES:
            self.assertEqual(self.forms(joins, drops, lists), self.forms(joins, drops, others))

    def cut_anew(self, source, places):
        """A list with the same pages by kinds, its stretches cut in other places."""
        pieces = []
        for place in places:
            start = place[0]
            while start <= place[1]:
                end = source.randint(start, place[1])
                pieces.append((max(place[0], start - source.randint(0, 2)), end) + place[2:])
                start = end + 1
        return source.sample(pieces, len(pieces))

    def test_the_same_pages_by_kinds_have_one_form_where_joins(self):
        lists = []
        others = []
        for source, places in self.random_lists(14, 800):
            lists.append(places)
            others.append(self.cut_anew(source, places))
            self.assertEqual(pages_by_kinds(places), pages_by_kinds(others[-1]))
        self.assertNotEqual(self.forms(0, 0, lists), self.forms(0, 0, others))
        for drops in (0, 1):
            self.assertEqual(self.forms(1, drops, lists), self.forms(1, drops, others))

    def test_a_form_has_the_same_pages_by_each_kind(self):
        lists = [places for source, places in self.random_lists(15, 800)]
        for joins, drops in RULES:
            for places, found in zip(lists, self.forms(joins, drops, lists)):
                plain_pages = {row[0] for row in pages_by_kinds(places) if row[1] == 0}
                expected = {row for row in pages_by_kinds(places)
                            if row[1] == 0 or not drops or row[0] not in plain_pages}
                self.assertEqual(pages_by_kinds(found), expected)
                self.assertEqual(len(found), len(set(found)))

    def test_lists_of_256(self):
        source = random.Random(16)
        lists = [[random_place(source, SPANS) for _ in range(256)] for _ in range(12)]
        for joins, drops in RULES:
            expected = [model_form(BOUNDS, joins, drops, places) for places in lists]
            self.assertEqual(self.forms(joins, drops, lists), expected)
