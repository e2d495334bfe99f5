import unittest

from tests.helper import MOST_NUMBER, ask, begin, last, last_text, name, page, pages, run, write

# The text of 111 to 112 differs between way 0, way 1 and the rest; these three differ among them.
STRETCHES = ((101, 108), (120, 121), (111, 112))
TEXTS_BY_WAY = (
    ("101-108", "120-121", "111-112"),
    ("101-8", "120-1", "111-2"),
    ("101-08", "120-21", "111-12"),
    ("101-8", "120-21", "111-12"),
    ("101-8", "120-1", "111-12"),
)


def texts_behind(*calls):
    return tuple(last_text(*calls, write(start - 1, end - 1)) for start, end in STRETCHES)


class BeginTest(unittest.TestCase):
    def test_each_way_is_taken_and_answered_with_0(self):
        for way, texts in enumerate(TEXTS_BY_WAY):
            self.assertEqual(ask(begin(way)), [[0, 0]])
            self.assertEqual(texts_behind(begin(way), run(0, 1, 200)), texts)

    def test_joins_and_drops_of_0_and_1(self):
        for way in range(5):
            for joins in (0, 1):
                for drops in (0, 1):
                    self.assertEqual(ask(begin(way, joins, drops)), [[0, 0]])

    def test_a_new_object_has_way_0_and_no_pages(self):
        self.assertEqual(texts_behind(run(0, 1, 200)), TEXTS_BY_WAY[0])
        self.assertEqual(ask(pages(), name(0), page("1"), write(0, 0)), [[0, 0], [-1], [-3], [-2]])

    def test_refused_numbers(self):
        for bad in (begin(5), begin(MOST_NUMBER), begin(0, 2), begin(0, MOST_NUMBER), begin(0, 0, 2),
                    begin(0, 0, MOST_NUMBER), begin(5, 2, 2), begin(4, 1, 4294967295), begin(4, 2, 1)):
            self.assertEqual(ask(bad), [[-1]], bad)

    def test_begin_takes_all_pages_away(self):
        calls = (run(0, 1, 9), run(1, 1, 3, "A."), begin(0))
        self.assertEqual(last(*calls, pages()), [0, 0])
        self.assertEqual(last(*calls, name(0)), [-1])
        self.assertEqual(last(*calls, page("1")), [-3])
        self.assertEqual(last(*calls, page("A.i")), [-3])
        self.assertEqual(last(*calls, write(0, 0)), [-2])

    def test_names_and_runs_are_free_again_behind_begin(self):
        calls = (run(0, 1, 9), run(1, 1, 3), begin(1))
        answered = ask(*calls, run(1, 1, 3), run(0, 1, 9), pages(), page("i"), page("1"))
        self.assertEqual(answered[3:], [[0, 0], [0, 1], [0, 12], [0, 0], [0, 3]])

    def test_64_runs_fit_again_behind_begin(self):
        full = [run(0, number, 1) for number in range(1, 65)]
        answered = ask(*full, begin(0), *full)
        self.assertEqual(answered[65:], [[0, number] for number in range(64)])

    def test_65536_pages_fit_again_behind_begin(self):
        self.assertEqual(ask(run(0, 1, 65536), begin(0), run(0, 1, 65536), pages())[2:], [[0, 0], [0, 65536]])

    def test_refused_begin_leaves_way_and_book(self):
        for way, texts in enumerate(TEXTS_BY_WAY):
            for bad in (begin(5), begin(0, 2), begin(1, 0, 2), begin(2, 0, MOST_NUMBER), begin((way + 1) % 5, 2)):
                calls = (begin(way, 1, 1), run(0, 1, 200), bad)
                self.assertEqual(texts_behind(*calls), texts)
                self.assertEqual(ask(*calls, pages(), name(199), page("1"), run(0, 200, 1), run(0, 201, 1))[3:],
                                 [[0, 200], [0, 50, 48, 48], [0, 0], [-3], [0, 1]])

    def test_begin_changes_the_way_of_an_object_in_use(self):
        for old in range(5):
            for new, texts in enumerate(TEXTS_BY_WAY):
                self.assertEqual(texts_behind(begin(old), run(0, 1, 9), begin(new), run(0, 1, 200)), texts)
