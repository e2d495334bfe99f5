import random
import unittest

from tests.helper import (RULES, WAYS, ask_behind, as_text, begin, figure, form, last, main, note, plain, random_place,
                          run, table, text, write)

BOOK = (run(1, 1, 12), run(0, 95, 100), run(0, 1, 60, "A."), run(3, 1, 40, "q"))
SPANS = ((0, 11), (12, 111), (112, 171), (172, 211))


def text_by(way, places, joins=0, drops=0):
    return as_text(last(begin(way, joins, drops), *BOOK, text(places)))


class TextTest(unittest.TestCase):
    def test_no_places(self):
        for way in WAYS:
            self.assertEqual(last(begin(way), *BOOK, text([])), [0])
        self.assertEqual(last(text([])), [0])

    def test_one_place(self):
        for way, told in enumerate(("101-108", "101-8", "101-08", "101-8", "101-8")):
            self.assertEqual(text_by(way, [plain(18, 25)]), told)

    def test_several_places_by_the_way(self):
        places = [plain(0, 8), plain(18, 25), main(28, 29), note(12, 40), figure(111), table(112), plain(122, 123)]
        for way, told in enumerate((
                "i-ix, 101-108, 111-112!, 95[n40], 194[f], A.1[t], A.11-A.12",
                "i-ix, 101-8, 111-2!, 95[n40], 194[f], A.1[t], A.11-2",
                "i-ix, 101-08, 111-12!, 95[n40], 194[f], A.1[t], A.11-12",
                "i-ix, 101-8, 111-12!, 95[n40], 194[f], A.1[t], A.11-12",
                "i-ix, 101-8, 111-12!, 95[n40], 194[f], A.1[t], A.11-12")):
            self.assertEqual(text_by(way, places), told)

    def test_nothing_is_joined_dropped_or_ordered(self):
        places = [plain(6, 8), plain(0, 5), plain(0, 5), note(0, 1), plain(9), main(9), table(9), figure(9), note(0, 1)]
        for joins, drops in RULES:
            self.assertEqual(text_by(1, places, joins, drops),
                             "vii-ix, i-vi, i-vi, i[n1], x, x!, x[t], x[f], i[n1]")

    def test_places_as_written_each_by_itself(self):
        source = random.Random(21)
        for way in WAYS:
            calls = [begin(way, 1, 1), *BOOK]
            lists = [[random_place(source, SPANS) for _ in range(source.randint(1, 20))] for _ in range(100)]
            answered = ask_behind(calls, [text(places) for places in lists])
            for places, answer in zip(lists, answered):
                written = [as_text(one) for one in ask_behind(calls, [write(*place) for place in places])]
                self.assertEqual(as_text(answer), ", ".join(written))

    def test_256_places(self):
        for way in WAYS:
            self.assertEqual(text_by(way, [plain(0)] * 256), ", ".join(["i"] * 256))
            self.assertEqual(text_by(way, [plain(0)] * 257), -1)

    def test_refused(self):
        for way in WAYS:
            self.assertEqual(text_by(way, [plain(0), plain(212)]), -2)
            self.assertEqual(text_by(way, [plain(212), plain(0)]), -2)
            self.assertEqual(text_by(way, [plain(212)] * 257), -1)


class OneTextTest(unittest.TestCase):
    """Lists that say the same have one text, by way of their form."""

    def test_forms_of_one_list_in_many_orders(self):
        source = random.Random(22)
        for joins, drops in RULES:
            for way in WAYS:
                places = [random_place(source, SPANS) for _ in range(30)]
                texts = set()
                for _ in range(10):
                    source.shuffle(places)
                    found = last(begin(way, joins, drops), *BOOK, form(places))[1:]
                    texts.add(as_text(last(begin(way, joins, drops), *BOOK, [9, len(found)] + found)))
                self.assertEqual(len(texts), 1)


class NoLongerThanWay0Test(unittest.TestCase):
    """B3, of lists."""

    def test_no_way_is_longer(self):
        source = random.Random(23)
        lists = [[random_place(source, SPANS) for _ in range(source.randint(0, 20))] for _ in range(200)]
        lengths = []
        for way in WAYS:
            answered = ask_behind([begin(way), *BOOK], [text(places) for places in lists])
            self.assertTrue(all(answer[0] == 0 for answer in answered))
            lengths.append([len(answer) for answer in answered])
        for way in WAYS:
            self.assertTrue(all(cut <= whole for cut, whole in zip(lengths[way], lengths[0])))
        self.assertLess(sum(lengths[1]), sum(lengths[0]))
