import unittest

from headplaces.places import UnknownCall, answers
from tests.helper import (RULES, WAYS, ask, as_text, begin, figure, flat, form, has, last, list_told, main, name, note,
                          page, pages, plain, read, run, split, table, text, write)

RUNS = (run(1, 1, 12), run(0, 90, 60), run(3, 1, 30, "A."))
GOOD = (begin(4, 1, 0),) + RUNS
REFUSED = (
    (begin(5), [-1]), (begin(0, 2), [-1]), (begin(0, 0, 2), [-1]),
    (run(4, 1, 1), [-1]), (run(0, 0, 1), [-1]), (run(0, 1, 0), [-1]), (run(3, 702, 2), [-1]),
    (run(0, 1, 1, "abcde"), [-1]), (run(0, 1, 1, "a-"), [-1]), (run(0, 1, 65536), [-2]), (run(0, 149, 1), [-3]),
    (run(1, 12, 5), [-3]), (run(3, 1, 1, "A."), [-3]),
    (name(102), [-1]), (page("xiii"), [-3]), (page(""), [-3]),
    (write(102, 102), [-2]), (write(11, 12), [-2]), (write(1, 0), [-2]), (write(0, 0, 4), [-2]),
    (write(0, 1, 1, 0, 1), [-2]), (write(0, 0, 2, 1), [-2]), (write(0, 0, 1), [-2]),
    (write(0, 0, 1, 0, 16777216), [-2]), (write(0, 0, 0, 0, 1), [-2]),
    (read(""), [-3]), (read("xiii"), [-3]), (read("90-"), [-3]), (read("90-90"), [-3]), (read("90-50"), [-3]),
    (read("i-ii[f]"), [-3]), (read("i[n0]"), [-3]), (read("i[n16777216]"), [-3]), (read("i, ii"), [-3]),
    (form([plain(0)] * 257), [-1]), (form([plain(102)] * 257), [-1]), (form([plain(0), plain(11, 12)]), [-2]),
    (form([main(0), note(0, 0)]), [-2]),
    (text([plain(0)] * 257), [-1]), (text([plain(102)] * 257), [-1]), (text([plain(0), plain(11, 12)]), [-2]),
    (text([main(0), note(0, 0)]), [-2]),
    (list_told("xiii"), [-3, 0]), (list_told("i, ii, "), [-3, 2]), (list_told("i, ii,iii"), [-3, 1]),
    (list_told(", ".join(["i"] * 257)), [-4]), (list_told(", ".join(["i"] * 257 + ["0"])), [-3, 257]),
    (has(0, [plain(0)] * 257), [-1]), (has(0, [plain(0), plain(102)]), [-2]), (has(1, [plain(0)]), [-3]),
    (has(102, [plain(101)]), [-3]), (has(0, []), [-3]),
)
# Each of the calls that only look, with what it answers behind GOOD.
LOOKING = (
    (pages(), [0, 102]), (name(0), [0, 105]), (page("90"), [0, 12]), (write(12, 13), [0, 57, 48, 45, 49]),
    (read("90-1!"), [0, 12, 13, 0, 1, 0]), (read("A.a[n7]"), [0, 72, 72, 1, 0, 7]),
    (form([plain(13), plain(12), note(12, 1)]), [0, 12, 13, 0, 0, 0, 12, 12, 1, 0, 1]), (form([]), [0]),
    (text([plain(13), plain(12), note(12, 1)]), [0] + [ord(sign) for sign in "91, 90, 90[n1]"]), (text([]), [0]),
    (list_told("91, 90, 90[f]"), [0, 13, 13, 0, 0, 0, 12, 12, 0, 0, 0, 12, 12, 2, 0, 0]), (list_told(""), [0]),
    (has(13, [main(12), plain(11), figure(13), table(13)]), [0, 2]),
)


def look():
    """Calls that show way, rules, runs, names and pages of the object."""
    calls = [pages()] + [name(index) for index in range(103)]
    calls += [page(told) for told in ("i", "xii", "xiii", "90", "149", "150", "A.a", "A.ad", "A.ae", "1")]
    calls += [write(start, end) for start in range(12, 72) for end in (start, start + 1, 71)]
    calls += [form([plain(12), plain(13), note(12, 1)]), form([main(3), main(2)]), form([plain(1), table(1)])]
    calls += [text([plain(32, 33), plain(23, 24), plain(11)]), list_told("101-8, xii"), read("101-08!")]
    return calls + [run(0, 150, 1), run(0, 1, 5, "A."), pages(), page("150"), page("A.5")]


class RefusalTest(unittest.TestCase):
    """B5: a refused call changes nothing."""

    def test_a_refusal_is_its_number_and_what_is_told_with_it(self):
        for call, number in REFUSED:
            self.assertEqual(ask(*GOOD, call)[-1], number, call)

    def test_behind_each_refusal(self):
        for joins, drops in RULES:
            good = (begin(4, joins, drops),) + RUNS
            expected = ask(*good, *look())[len(good):]
            for call, number in REFUSED:
                self.assertEqual(ask(*good, call, *look())[len(good) + 1:], expected, call)

    def test_behind_all_refusals(self):
        expected = ask(*GOOD, *look())[len(GOOD):]
        bad = [call for call, number in REFUSED]
        self.assertEqual(ask(*GOOD, *bad, *bad, *look())[len(GOOD) + 2 * len(bad):], expected)

    def test_behind_the_65th_run(self):
        full = [run(0, 3 * number + 1, 2) for number in range(64)]
        queries = [pages()] + [page(str(number)) for number in range(200)] + [name(index) for index in range(130)]
        self.assertEqual(ask(*full, run(0, 3, 1), *queries)[64], [-2])
        self.assertEqual(ask(*full, run(0, 3, 1), *queries)[65:], ask(*full, *queries)[64:])

    def test_a_new_object_stays_new(self):
        for call, number in REFUSED:
            if ask(call)[0][0] != 0:
                self.assertEqual(ask(call, *look())[1:], ask(*look()), call)


class LookingTest(unittest.TestCase):
    """Calls that answer of the object, and leave it as it is."""

    def test_what_is_answered(self):
        for call, answer in LOOKING:
            self.assertEqual(last(*GOOD, call), answer, call)

    def test_behind_each(self):
        for joins, drops in RULES:
            for way in WAYS:
                good = (begin(way, joins, drops),) + RUNS
                expected = ask(*good, *look())[len(good):]
                for call, answer in LOOKING:
                    self.assertEqual(ask(*good, call, *look())[len(good) + 1:], expected, call)

    def test_behind_all_and_each_twice(self):
        calls = [call for call, answer in LOOKING]
        told = [answer for call, answer in LOOKING]
        answered = ask(*GOOD, *calls, *calls, *look())[len(GOOD):]
        self.assertEqual(answered[:2 * len(calls)], told + told)
        self.assertEqual(answered[2 * len(calls):], ask(*GOOD, *look())[len(GOOD):])


class InterfaceTest(unittest.TestCase):
    def test_counts_stand_before_the_answers(self):
        calls = flat((begin(1), run(0, 101, 9), pages(), name(0), page("109"), write(0, 7), name(9), run(0, 1, 0)))
        self.assertEqual(answers(calls), [2, 0, 0, 2, 0, 0, 2, 0, 9, 4, 0, 49, 48, 49, 2, 0, 8,
                                          6, 0, 49, 48, 49, 45, 56, 1, -1, 1, -1])

    def test_calls_as_plain_numbers(self):
        calls = [1, 3, 1, 1, 2, 0, 7, 3, 2, 65, 46, 3, 4, 2, 5, 3, 65, 46, 56, 6, 5, 0, 2, 0, 1, 0]
        self.assertEqual(split(answers(calls)), [[0, 0], [0, 0], [0, 3], [0, 65, 46, 57], [0, 1],
                                                 [0, 65, 46, 55, 45, 57, 33]])

    def test_calls_come_in_any_order(self):
        self.assertEqual(ask(write(0, 0), page("1"), name(0), pages(), run(0, 1, 1), pages(), name(0), begin(2),
                             pages()),
                         [[-2], [-3], [-1], [0, 0], [0, 0], [0, 1], [0, 49], [0, 0], [0, 0]])

    def test_every_answer_is_a_list_of_whole_numbers(self):
        told = answers(every_call())
        self.assertIs(type(told), list)
        self.assertEqual({type(number) for number in told}, {int})

    def test_what_is_handed_in_stays_as_it_is(self):
        for call, answer in REFUSED + LOOKING:
            calls = flat(GOOD + (call,))
            copy = list(calls)
            told = answers(calls)
            self.assertEqual(calls, copy)
            self.assertIsNot(told, calls)

    def test_what_is_handed_in_is_not_changed_for_a_while(self):
        for call, answer in REFUSED + LOOKING:
            calls = Unchanging(flat(GOOD + (call,)))
            self.assertEqual(answers(calls), answers(list(calls)))
        calls = Unchanging(every_call())
        self.assertEqual(answers(calls), answers(list(calls)))

    def test_two_times_the_same(self):
        first = every_call()
        other = flat((begin(1, 1, 1), run(1, 1, 5), run(0, 100, 20), write(6, 8), run(3, 1, 702, "A."), begin(7),
                      form([plain(0), plain(1), note(1, 1)]), list_told("i, 100-2"), read("101-8"), has(3, [plain(3)]),
                      text([plain(6, 8)])))
        told = answers(first)
        told_other = answers(other)
        self.assertEqual(answers(first), told)
        self.assertEqual(answers(other), told_other)
        told.clear()
        self.assertNotEqual(answers(first), [])

    def test_a_line_begins_with_a_new_object(self):
        answers(flat((begin(1), run(0, 1, 500))))
        self.assertEqual(ask(pages(), run(0, 101, 9), write(0, 7)), [[0, 0], [0, 0], [0] + [ord(s) for s in "101-108"]])

    def test_list_refuses_3_with_the_number_of_the_part(self):
        calls = flat((run(1, 1, 3), list_told("i, ii, iv, v"), pages()))
        self.assertEqual(answers(calls), [2, 0, 0, 2, -3, 2, 2, 0, 3])

    def test_calls_7_to_11_as_plain_numbers(self):
        calls = [1, 1, 1, 1, 2, 0, 101, 9, 0, 7, 5, 49, 48, 49, 45, 56, 8, 10, 1, 1, 0, 0, 0, 0, 0, 0, 0, 0, 9, 5, 0, 7,
                 0, 1, 0, 10, 8, 49, 48, 50, 44, 32, 49, 48, 49, 11, 1, 10, 0, 0, 0, 0, 0, 1, 2, 0, 0, 0, 8, 0, 9, 0]
        self.assertEqual(answers(calls), [2, 0, 0, 2, 0, 0, 6, 0, 0, 7, 0, 0, 0, 6, 0, 0, 1, 0, 0, 0,
                                          7, 0, 49, 48, 49, 45, 56, 33, 11, 0, 1, 1, 0, 0, 0, 0, 0, 0, 0, 0,
                                          2, 0, 1, 1, 0, 1, 0])

    def test_a_number_that_no_call_has(self):
        for call in (0, 12, 255):
            with self.assertRaises(UnknownCall):
                answers([3, call])


def every_call():
    calls = GOOD + tuple(call for call, answer in REFUSED if len(call) < 1000)
    return flat(calls + tuple(call for call, answer in LOOKING) + tuple(look()))


class LongLinesTest(unittest.TestCase):
    """Lists of calls as long as the interface allows, for each call."""

    MOST_NUMBERS = 31000
    MOST_CALLS = 3000
    BOOK = tuple(run(0, 100 * number + 1, 90) for number in range(60)) + (run(1, 1, 3999), run(2, 1, 3999, "A."),
                                                                         run(3, 1, 702, "B."), run(0, 1, 40, "Zz.a"))

    def ask_often(self, call, calls=()):
        """The answers to as many of the call as fit behind the calls, and of pages in what room is left."""
        used = len(flat(calls))
        count = min((self.MOST_NUMBERS - used) // len(call), self.MOST_CALLS - len(calls))
        rest = min(self.MOST_NUMBERS - used - count * len(call), self.MOST_CALLS - len(calls) - count)
        answered = ask(*calls, *[call] * count, *[pages()] * rest)[len(calls):]
        self.assertEqual(len(answered), count + rest)
        return answered[:count]

    def check(self, call, answer, calls=BOOK):
        for one in self.ask_often(call, calls):
            self.assertEqual(one, answer)

    def test_begin(self):
        self.check(begin(4, 1, 1), [0, 0])
        self.check(begin(5, 1, 1), [-1])

    def test_run(self):
        self.check(run(0, 1, 1), [-2])
        self.check(run(0, 1, 1, "A" * 100), [-1])
        self.assertEqual(self.ask_often(run(0, 1, 65536), ()), [[0, 0]] + [[-2]] * 2999)
        self.assertEqual(ask(*[begin(0), run(1, 1, 3999)] * 1500), [[0, 0]] * 3000)

    def test_pages(self):
        self.assertEqual(answers([3] * 3000), [2, 0, 0] * 3000)
        self.check(pages(), [0, 14140])

    def test_name(self):
        self.check(name(14139), [0] + [ord(sign) for sign in "Zz.a40"])

    def test_page(self):
        self.check(page("Zz.a40"), [0, 14139])
        self.check(page("i" * 1000), [-3])

    def test_write(self):
        self.check(write(14100, 14139), [0] + [ord(sign) for sign in "Zz.a1-Zz.a40"])

    def test_read(self):
        self.check(read("Zz.a1-40!"), [0, 14100, 14139, 0, 1, 0])
        for told in ("1" * 1000, "1-" + "9" * 998, "1[n" + "9" * 996 + "]", "!" * 1000, "i-" + "x" * 998):
            self.check(read(told), [-3])

    def test_form(self):
        self.check(form([plain(14100, 14139)]), [0, 14100, 14139, 0, 0, 0])
        chain = [plain(5400 + index, 5402 + index) for index in range(256)]
        self.check(form(chain), [0, 5400, 5657, 0, 0, 0])
        notes = [note(14139, 256 - index) for index in range(256)]
        self.check(form(notes), [0] + flat(reversed(notes)))
        self.check(form([plain(14139)] * 300), [-1])
        self.check(form([plain(14139)] * 255 + [plain(14140)]), [-2])

    def test_text(self):
        self.check(text([plain(14100, 14139)]), [0] + [ord(sign) for sign in "Zz.a1-Zz.a40"])
        told = ", ".join(["A.MMMDCCCLXXXVIII-A.MMMCMXCIX!"] * 256)
        answered = self.ask_often(text([main(9399 + 3887, 9399 + 3998)] * 256), self.BOOK)
        self.assertEqual({as_text(answer) for answer in answered}, {told})
        self.check(text([plain(14139)] * 300), [-1])

    def test_list(self):
        self.check(list_told("Zz.a40"), [0, 14139, 14139, 0, 0, 0])
        many = ", ".join(["Zz.a1-40"] * 256)
        self.check(list_told(many), [0] + [14100, 14139, 0, 0, 0] * 256)
        few = self.BOOK[:2]
        self.check(list_told("1, " * 10299 + "1!!"), [-3, 10299], few)
        self.check(list_told("1, " * 10299 + "1-2"), [-4], few)
        self.check(list_told("1" * 30900), [-3, 0], few)

    def test_has(self):
        self.check(has(14139, [plain(14100, 14139)]), [0, 0])
        self.check(has(14139, [plain(0)] * 255 + [plain(14139)]), [0, 255])
        self.check(has(14139, [plain(14139)] * 300), [-1])


def refuse_change(self, *args, **named):
    raise AssertionError("what was handed in was changed")


class Unchanging(list):
    """A list that tells when somebody changes it."""

    append = extend = insert = pop = remove = clear = reverse = sort = refuse_change
    __setitem__ = __delitem__ = __iadd__ = __imul__ = refuse_change
