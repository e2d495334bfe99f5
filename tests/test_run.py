import random
import unittest

from tests.helper import MOST_NUMBER, ModelBook, ask, as_text, begin, last, name, page, pages, run

MOST = ((0, 99999), (1, 3999), (2, 3999), (3, 702))


class RunNumbersTest(unittest.TestCase):
    def test_each_run_is_answered_with_its_number(self):
        answered = ask(run(0, 1, 5), run(1, 1, 5), run(2, 1, 5), run(3, 500, 5), pages())
        self.assertEqual(answered, [[0, 0], [0, 1], [0, 2], [0, 3], [0, 20]])

    def test_first_number_and_most_of_each_style(self):
        for style, most in MOST:
            self.assertEqual(ask(run(style, 1, 1), run(style, most, 1), pages()), [[0, 0], [0, 1], [0, 2]])

    def test_above_the_most_of_each_style(self):
        for style, most in MOST:
            self.assertEqual(ask(run(style, most + 1, 1)), [[-1]])
            self.assertEqual(ask(run(style, most, 2)), [[-1]])
            self.assertEqual(ask(run(style, 1, most + 1)), [[-1]])
            self.assertEqual(ask(run(style, most - 5, 7)), [[-1]])
            self.assertEqual(ask(run(style, most - 5, 6)), [[0, 0]])

    def test_whole_styles(self):
        for style, most in MOST[1:]:
            self.assertEqual(ask(run(style, 1, most), pages()), [[0, 0], [0, most]])

    def test_first_and_count_of_0(self):
        for style in range(4):
            self.assertEqual(ask(run(style, 0, 1)), [[-1]])
            self.assertEqual(ask(run(style, 0, 2)), [[-1]])
            self.assertEqual(ask(run(style, 1, 0)), [[-1]])
            self.assertEqual(ask(run(style, 0, 0)), [[-1]])

    def test_styles_that_are_not_there(self):
        for style in (4, 5, 255, MOST_NUMBER):
            self.assertEqual(ask(run(style, 1, 1)), [[-1]])

    def test_greatest_numbers(self):
        for style in range(4):
            self.assertEqual(ask(run(style, MOST_NUMBER, 1)), [[-1]])
            self.assertEqual(ask(run(style, 1, MOST_NUMBER)), [[-1]])
            self.assertEqual(ask(run(style, MOST_NUMBER, MOST_NUMBER)), [[-1]])
            self.assertEqual(ask(run(style, 2, MOST_NUMBER)), [[-1]])


class PrefixTest(unittest.TestCase):
    def test_lengths(self):
        for style in range(4):
            for length, answer in ((0, [0, 0]), (1, [0, 0]), (3, [0, 0]), (4, [0, 0]), (5, [-1]), (100, [-1])):
                self.assertEqual(ask(run(style, 1, 1, "A" * length)), [answer])

    def test_every_byte_at_every_position(self):
        for byte in range(256):
            right = 65 <= byte <= 90 or 97 <= byte <= 122 or byte == 46
            for position in range(4):
                prefix = [66] * 4
                prefix[position] = byte
                self.assertEqual(ask(run(0, 1, 1, prefix)), [[0, 0] if right else [-1]], prefix)

    def test_edges_of_the_letters(self):
        for sign in "AZaz.":
            self.assertEqual(as_text(last(run(0, 7, 1, sign), name(0))), sign + "7")
        for sign in "@[`{-/0 9!?":
            self.assertEqual(ask(run(0, 7, 1, sign), pages()), [[-1], [0, 0]])

    def test_wrong_byte_behind_right_ones(self):
        self.assertEqual(ask(run(1, 1, 1, "abc1")), [[-1]])
        self.assertEqual(ask(run(1, 1, 1, "a..Z")), [[0, 0]])


class LimitsTest(unittest.TestCase):
    def test_64_runs_and_one_more(self):
        runs = [run(0, number, 1) for number in range(1, 65)]
        answered = ask(*runs, pages(), run(0, 65, 1), run(3, 1, 1), pages(), page("64"), page("65"))
        self.assertEqual(answered[:64], [[0, number] for number in range(64)])
        self.assertEqual(answered[64:], [[0, 64], [-2], [-2], [0, 64], [0, 63], [-3]])

    def test_63_runs_leave_room_for_one(self):
        runs = [run(3, number, 1) for number in range(1, 64)]
        self.assertEqual(ask(*runs, run(0, 1, 1), run(0, 2, 1))[63:], [[0, 63], [-2]])

    def test_65536_pages_and_one_more(self):
        self.assertEqual(ask(run(0, 1, 65536), pages()), [[0, 0], [0, 65536]])
        self.assertEqual(ask(run(0, 1, 65537), pages()), [[-2], [0, 0]])
        self.assertEqual(ask(run(0, 1, 99999), pages()), [[-2], [0, 0]])
        self.assertEqual(ask(run(0, 1, 65536), run(1, 1, 1), pages()), [[0, 0], [-2], [0, 65536]])

    def test_65536_pages_in_two_runs(self):
        answered = ask(run(0, 1, 65530), run(1, 1, 7), run(1, 1, 6), run(2, 1, 1), pages())
        self.assertEqual(answered, [[0, 0], [-2], [0, 1], [-2], [0, 65536]])

    def test_refused_runs_do_not_count_towards_64(self):
        runs = [run(0, number, 1) for number in range(1, 64)]
        bad = [run(4, 1, 1), run(0, 1, 1), run(0, 200, 65536), run(0, 0, 1)] * 20
        self.assertEqual(ask(*runs, *bad, run(1, 1, 1))[-1], [0, 63])


class SameNameTest(unittest.TestCase):
    def refused(self, *calls):
        before = [call for call in calls[:-1]]
        answered = ask(*before, calls[-1], pages())
        self.assertEqual(answered[-2], [-3])
        self.assertEqual(answered[-1], last(*before, pages()))

    def taken(self, *calls):
        self.assertEqual(ask(*calls)[-1], [0, len(calls) - 1])

    def test_one_style(self):
        for style in range(4):
            for prefix in ("", "B.", "x"):
                old = run(style, 100, 50, prefix)
                for first, count in ((100, 50), (149, 1), (149, 20), (80, 21), (100, 1), (80, 200), (120, 2)):
                    self.refused(old, run(style, first, count, prefix))
                for first, count in ((150, 1), (150, 30), (99, 1), (80, 20)):
                    self.taken(old, run(style, first, count, prefix))

    def test_one_style_with_other_prefixes(self):
        self.taken(run(0, 1, 50), run(0, 1, 50, "A"), run(0, 1, 50, "a"), run(0, 1, 50, "A."))
        self.taken(run(1, 1, 3999), run(1, 1, 3999, "A."), run(1, 1, 3999, "B"))
        self.taken(run(3, 1, 702), run(3, 1, 702, "."))

    def test_the_name_may_stand_in_any_run_before(self):
        self.refused(run(0, 1, 5), run(0, 10, 5), run(0, 20, 5), run(0, 14, 1))
        self.refused(run(0, 1, 5), run(0, 10, 5), run(0, 20, 5), run(0, 5, 2))
        self.refused(run(0, 1, 5), run(0, 10, 5), run(0, 20, 5), run(0, 24, 2))

    def test_small_roman_and_letters(self):
        for number, text in ((1, "i"), (2, "ii"), (5, "v"), (9, "ix"), (90, "xc"), (1000, "m"), (400, "cd")):
            letters = text_number(text)
            self.refused(run(1, number, 1), run(3, letters, 1))
            self.refused(run(3, letters, 1), run(1, number, 1))
            self.taken(run(3, letters, 1, "q"), run(1, number, 1, "r"))
        self.taken(run(3, 1, 702), run(1, 3, 1))

    def test_capital_roman_is_like_no_small_letters(self):
        self.taken(run(2, 1, 3999), run(1, 1, 3999))
        self.taken(run(2, 1, 3999), run(3, 1, 702))

    def test_a_prefix_makes_names_alike(self):
        self.refused(run(1, 11, 1), run(1, 1, 1, "x"))
        self.refused(run(1, 1, 1, "x"), run(1, 11, 1))
        self.refused(run(2, 3999, 1), run(2, 999, 1, "MMM"))
        self.refused(run(3, 28, 1), run(3, 2, 1, "a"))
        self.refused(run(3, 1, 26, "ab"), run(3, 27, 30, "a"), run(3, 1, 1, "ab"))
        self.refused(run(1, 12, 1), run(3, text_number("ii"), 1, "x"))
        self.refused(run(3, text_number("xi"), 1), run(1, 1, 1, "x"))
        self.refused(run(1, 8, 1, "Av"), run(1, 3, 1, "Avv"))
        self.taken(run(1, 13, 1), run(1, 1, 1, "x"))
        self.taken(run(3, 28, 1), run(3, 1, 1, "a"))
        self.taken(run(2, 11, 1), run(2, 1, 1, "x"))

    def test_the_prefix_of_digits_is_told_apart_from_letters(self):
        self.taken(run(0, 1, 100, "a"), run(3, 1, 702), run(1, 3, 1))


def text_number(text):
    """The number that style 3 tells by these letters."""
    values = [ord(sign) - 96 for sign in text]
    return values[0] if len(values) == 1 else 26 * values[0] + values[1]


class FirstRefusalTest(unittest.TestCase):
    def test_1_ahead_of_2_and_3(self):
        full = [run(0, number, 1) for number in range(1, 65)]
        for bad in (run(4, 1, 1), run(0, 0, 1), run(0, 1, 0), run(0, 99999, 2), run(0, 1, 1, "abcde"),
                    run(0, 1, 1, "1")):
            self.assertEqual(ask(*full, bad)[-1], [-1])
            self.assertEqual(ask(run(0, 1, 65536), bad)[-1], [-1])
        self.assertEqual(ask(run(0, 1, 65536), run(1, 1, 4000))[-1], [-1])

    def test_2_ahead_of_3(self):
        full = [run(0, number, 1) for number in range(1, 65)]
        self.assertEqual(ask(*full, run(0, 1, 1))[-1], [-2])
        self.assertEqual(ask(run(0, 1, 65536), run(0, 1, 1))[-1], [-2])
        self.assertEqual(ask(run(1, 1, 100), run(0, 1, 65436), run(1, 1, 1))[-1], [-2])
        self.assertEqual(ask(run(1, 1, 100), run(0, 1, 65435), run(1, 1, 1))[-1], [-3])


class RefusedRunTest(unittest.TestCase):
    def test_pages_and_names_stay(self):
        good = (run(1, 1, 12), run(0, 1, 100), run(3, 30, 5, "A."))
        for bad in (run(4, 1, 1), run(0, 0, 1), run(0, 200, 1, "+"), run(0, 99999, 2), run(0, 101, 65536),
                    run(1, 12, 100), run(0, 100, 50), run(3, 34, 9, "A."), run(3, 25, 6, "A."), run(0, 90, 500)):
            queries = [pages()] + [name(index) for index in range(119)]
            for told in ("xiii", "xii", "100", "101", "A.ac", "A.ad", "A.ah", "A.ai", "a", "149", "200"):
                queries.append(page(told))
            self.assertEqual(ask(*good, bad, *queries)[4:], ask(*good, *queries)[3:])

    def test_names_of_a_refused_run_are_still_free(self):
        self.assertEqual(ask(run(1, 10, 1), run(1, 1, 10), run(1, 1, 9), pages(), page("ix")),
                         [[0, 0], [-3], [0, 1], [0, 10], [0, 9]])
        self.assertEqual(ask(run(0, 10, 1), run(0, 1, 10), run(0, 1, 9), pages(), page("9")),
                         [[0, 0], [-3], [0, 1], [0, 10], [0, 9]])


class ModelTest(unittest.TestCase):
    def random_run(self, source):
        style = source.choice((0, 0, 1, 1, 2, 3, 3))
        top = {0: 300, 1: 120, 2: 60, 3: 702}[style]
        prefix = "".join(source.choice("aixvX.") for _ in range(source.choice((0, 0, 0, 1, 1, 2))))
        return style, source.randint(1, top), source.choice((1, 1, 2, 3, 8, 40)), prefix

    def test_rows_of_runs_answer_as_the_model_does(self):
        source = random.Random(19)
        seen = set()
        for _ in range(150):
            model = ModelBook()
            runs = [self.random_run(source) for _ in range(40)]
            expected = [model.run(*told) for told in runs]
            calls = [run(*told) for told in runs]
            queries = [name(index) for index in range(len(model.names))]
            answered = ask(begin(0), *calls, pages(), *queries)
            self.assertEqual(answered[1:41], expected)
            self.assertEqual(answered[41], [0, len(model.names)])
            self.assertEqual([as_text(answer) for answer in answered[42:]], model.names)
            seen.update(answer[0] for answer in expected)
        self.assertEqual(seen, {0, -1, -3})
