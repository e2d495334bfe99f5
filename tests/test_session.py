import unittest

from headplaces.places import answers
from tests.helper import ask, begin, name, page, pages, run, split, write

GOOD = (begin(4, 1, 0), run(1, 1, 12), run(0, 90, 60), run(3, 1, 30, "A."))
REFUSED = (
    (begin(5), -1), (begin(0, 2), -1), (begin(0, 0, 2), -1),
    (run(4, 1, 1), -1), (run(0, 0, 1), -1), (run(0, 1, 0), -1), (run(3, 702, 2), -1), (run(0, 1, 1, "abcde"), -1),
    (run(0, 1, 1, "a-"), -1), (run(0, 1, 65536), -2), (run(0, 149, 1), -3), (run(1, 12, 5), -3),
    (run(3, 1, 1, "A."), -3),
    (name(102), -1), (page("xiii"), -3), (page(""), -3),
    (write(102, 102), -2), (write(11, 12), -2), (write(1, 0), -2), (write(0, 0, 4), -2), (write(0, 1, 1, 0, 1), -2),
    (write(0, 0, 2, 1), -2), (write(0, 0, 1), -2), (write(0, 0, 1, 0, 16777216), -2), (write(0, 0, 0, 0, 1), -2),
)


def look():
    """Calls that show way, runs, names and pages of the object."""
    calls = [pages()] + [name(index) for index in range(103)]
    calls += [page(told) for told in ("i", "xii", "xiii", "90", "149", "150", "A.a", "A.ad", "A.ae", "1")]
    calls += [write(start, end) for start in range(12, 72) for end in (start, start + 1, 71)]
    return calls + [run(0, 150, 1), run(0, 1, 5, "A."), pages(), page("150"), page("A.5")]


def flat(calls):
    return [number for call in calls for number in call]


class RefusalTest(unittest.TestCase):
    """B5: a refused call changes nothing."""

    def test_a_refusal_is_its_number_alone(self):
        for call, number in REFUSED:
            self.assertEqual(ask(*GOOD, call)[-1], [number], call)

    def test_behind_each_refusal(self):
        expected = ask(*GOOD, *look())[len(GOOD):]
        for call, number in REFUSED:
            self.assertEqual(ask(*GOOD, call, *look())[len(GOOD) + 1:], expected, call)

    def test_behind_all_refusals(self):
        expected = ask(*GOOD, *look())[len(GOOD):]
        bad = [call for call, number in REFUSED]
        self.assertEqual(ask(*GOOD, *bad, *bad, *look())[len(GOOD) + 2 * len(bad):], expected)

    def test_behind_the_65th_run(self):
        full = [run(0, 3 * number + 1, 2) for number in range(64)]
        queries = [pages()] + [page(str(number)) for number in range(200)] + [name(index) for index in range(130)]
        self.assertEqual(ask(*full, run(0, 3, 1), *queries)[64], [-2])
        self.assertEqual(ask(*full, run(0, 3, 1), *queries)[65:], ask(*full, *queries)[64:])

    def test_a_new_object_stays_new(self):
        for call, number in REFUSED:
            if ask(call)[0][0] != 0:
                self.assertEqual(ask(call, *look())[1:], ask(*look()), call)


class InterfaceTest(unittest.TestCase):
    def test_counts_stand_before_the_answers(self):
        calls = flat((begin(1), run(0, 101, 9), pages(), name(0), page("109"), write(0, 7), name(9), run(0, 1, 0)))
        self.assertEqual(answers(calls), [2, 0, 0, 2, 0, 0, 2, 0, 9, 4, 0, 49, 48, 49, 2, 0, 8,
                                          6, 0, 49, 48, 49, 45, 56, 1, -1, 1, -1])

    def test_calls_as_plain_numbers(self):
        calls = [1, 3, 1, 1, 2, 0, 7, 3, 2, 65, 46, 3, 4, 2, 5, 3, 65, 46, 56, 6, 5, 0, 2, 0, 1, 0]
        self.assertEqual(split(answers(calls)), [[0, 0], [0, 0], [0, 3], [0, 65, 46, 57], [0, 1],
                                                 [0, 65, 46, 55, 45, 57, 33]])

    def test_calls_come_in_any_order(self):
        self.assertEqual(ask(write(0, 0), page("1"), name(0), pages(), run(0, 1, 1), pages(), name(0), begin(2),
                             pages()),
                         [[-2], [-3], [-1], [0, 0], [0, 0], [0, 1], [0, 49], [0, 0], [0, 0]])

    def test_every_answer_is_a_list_of_whole_numbers(self):
        told = answers(flat(GOOD + tuple(call for call, number in REFUSED) + tuple(look())))
        self.assertIs(type(told), list)
        self.assertEqual({type(number) for number in told}, {int})

    def test_what_is_handed_in_stays_as_it_is(self):
        calls = flat(GOOD + tuple(call for call, number in REFUSED) + tuple(look()))
        copy = list(calls)
        told = answers(calls)
        self.assertEqual(calls, copy)
        self.assertIsNot(told, calls)

    def test_what_is_handed_in_is_not_changed_for_a_while(self):
        calls = Unchanging(flat(GOOD + tuple(call for call, number in REFUSED) + tuple(look())))
        self.assertEqual(answers(calls), answers(list(calls)))

    def test_two_times_the_same(self):
        first = flat(GOOD + tuple(look()))
        other = flat((begin(1), run(1, 1, 5), run(0, 100, 20), write(6, 8), run(3, 1, 702, "A."), begin(7)))
        told = answers(first)
        told_other = answers(other)
        self.assertEqual(answers(first), told)
        self.assertEqual(answers(other), told_other)
        told.clear()
        self.assertNotEqual(answers(first), [])

    def test_a_line_begins_with_a_new_object(self):
        answers(flat((begin(1), run(0, 1, 500))))
        self.assertEqual(ask(pages(), run(0, 101, 9), write(0, 7)), [[0, 0], [0, 0], [0] + [ord(s) for s in "101-108"]])

    def test_long_lines(self):
        self.assertEqual(answers([3] * 3000), [2, 0, 0] * 3000)
        self.assertEqual(len(ask(*[page("i" * 1000)] * 30)), 30)
        told = ask(*[begin(0), run(1, 1, 3999)] * 1500)
        self.assertEqual(told, [[0, 0]] * 3000)
        self.assertEqual(ask(*[run(0, 1, 65536)] * 3000), [[0, 0]] + [[-2]] * 2999)


def refuse_change(self, *args, **named):
    raise AssertionError("what was handed in was changed")


class Unchanging(list):
    """A list that tells when somebody changes it."""

    append = extend = insert = pop = remove = clear = reverse = sort = refuse_change
    __setitem__ = __delitem__ = __iadd__ = __imul__ = refuse_change
