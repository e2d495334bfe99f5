"""Calls as lists of numbers, answers taken apart, and a plain model to compare with."""

import re
from itertools import product
from string import ascii_lowercase

from headplaces.places import answers

MOST_NUMBER = 4294967295
MOST_BY_STYLE = (99999, 3999, 3999, 702)
MOST_NOTE = 16777215
WAYS = range(5)
RULES = tuple(product((0, 1), repeat=2))


def begin(way, joins=0, drops=0):
    return [1, way, joins, drops]


def run(style, first, count, prefix=""):
    told = as_bytes(prefix)
    return [2, style, first, count, len(told)] + told


def pages():
    return [3]


def name(index):
    return [4, index]


def page(told):
    told = as_bytes(told)
    return [5, len(told)] + told


def write(from_index, to_index, kind=0, main=0, note=0):
    return [6, 5, from_index, to_index, kind, main, note]


def read(told):
    told = as_bytes(told)
    return [7, len(told)] + told


def form(places):
    return [8, 5 * len(places)] + flat(places)


def text(places):
    return [9, 5 * len(places)] + flat(places)


def list_told(told):
    told = as_bytes(told)
    return [10, len(told)] + told


def has(index, places):
    return [11, index, 5 * len(places)] + flat(places)


def plain(from_index, to_index=None):
    return (from_index, from_index if to_index is None else to_index, 0, 0, 0)


def main(from_index, to_index=None):
    return (from_index, from_index if to_index is None else to_index, 0, 1, 0)


def note(index, number):
    return (index, index, 1, 0, number)


def figure(index):
    return (index, index, 2, 0, 0)


def table(index):
    return (index, index, 3, 0, 0)


def flat(rows):
    return [number for row in rows for number in row]


def as_bytes(told):
    return [ord(sign) for sign in told] if isinstance(told, str) else list(told)


def as_text(answer):
    """The text of an answer of bytes; of a refusal its number."""
    if answer[0] != 0:
        return answer[0] if len(answer) == 1 else answer
    return "".join(chr(byte) for byte in answer[1:])


def as_places(answer):
    """The places of an answer that is no refusal; of a refusal the answer."""
    if answer[0] != 0:
        return answer
    if len(answer) % 5 != 1:
        raise AssertionError("an answer of places has no multiple of five behind its 0")
    return [tuple(answer[start:start + 5]) for start in range(1, len(answer), 5)]


def split(told):
    """The answers, one list a call."""
    parts = []
    position = 0
    while position < len(told):
        length = told[position]
        parts.append(told[position + 1:position + 1 + length])
        if len(parts[-1]) != length:
            raise AssertionError("an answer is shorter than its count says")
        position += 1 + length
    return parts


def ask(*calls):
    """The answers to the calls, in order, on one new object."""
    handed = flat(calls)
    if len(handed) > 31000 or len(calls) > 3000:
        raise AssertionError("more is handed in than the interface allows")
    parts = split(answers(handed))
    if len(parts) != len(calls):
        raise AssertionError(f"{len(calls)} calls, {len(parts)} answers")
    return parts


def ask_behind(calls, queries):
    """The answers to the queries behind the calls, in as many lines as they need."""
    found = []
    ahead = sum(len(call) for call in calls)
    room = []
    used = ahead
    for query in list(queries) + [None]:
        full = query is None or used + len(query) > 31000 or len(calls) + len(room) == 3000
        if full and room:
            found.extend(ask(*calls, *room)[len(calls):])
            room = []
            used = ahead
        if query is not None:
            room.append(query)
            used += len(query)
    return found


def last(*calls):
    return ask(*calls)[-1]


def last_text(*calls):
    return as_text(last(*calls))


def model_roman(number):
    steps = ((1000, "m"), (900, "cm"), (500, "d"), (400, "cd"), (100, "c"), (90, "xc"), (50, "l"),
             (40, "xl"), (10, "x"), (9, "ix"), (5, "v"), (4, "iv"), (1, "i"))
    text = ""
    for value, letters in steps:
        while number >= value:
            text += letters
            number -= value
    return text


MODEL_LETTERS = list(ascii_lowercase) + [a + b for a, b in product(ascii_lowercase, repeat=2)]


def model_number(style, number):
    if style == 0:
        return str(number)
    if style == 1:
        return model_roman(number)
    if style == 2:
        return model_roman(number).upper()
    return MODEL_LETTERS[number - 1]


def model_names(style, first, count, prefix=""):
    return [prefix + model_number(style, number) for number in range(first, first + count)]


class ModelBook:
    """The words of the document on runs, with every name written out."""

    def __init__(self):
        self.names = []
        self.runs = 0

    def run(self, style, first, count, prefix):
        if style > 3 or first == 0 or count == 0 or first + count - 1 > MOST_BY_STYLE[style]:
            return [-1]
        if len(prefix) > 4 or any(not sign.isalpha() and sign != "." for sign in prefix):
            return [-1]
        if self.runs == 64 or len(self.names) + count > 65536:
            return [-2]
        names = model_names(style, first, count, prefix)
        if set(names) & set(self.names):
            return [-3]
        self.names.extend(names)
        self.runs += 1
        return [0, self.runs - 1]


class ModelReader:
    """The words of the document on reading, over every name of a book's runs."""

    FORM = re.compile(r"([^-\[\]!]*)(-[^-\[\]!]*)?(\[n[1-9][0-9]*\]|\[f\]|\[t\]|!)?")

    def __init__(self, runs):
        self.runs = runs
        self.found = {}
        for number, told in enumerate(runs):
            for page_name in model_names(*told):
                self.found[page_name] = (len(self.found), number)

    def to_name(self, from_name, told):
        style, first, count, prefix = self.runs[self.found[from_name][1]]
        if style != 0 or not re.fullmatch("[0-9]+", told):
            return told
        digits = from_name[len(prefix):]
        return prefix + digits[:max(0, len(digits) - len(told))] + told

    def read(self, told):
        """A place, or None."""
        match = self.FORM.fullmatch(told)
        if match is None or match[1] not in self.found:
            return None
        from_index, number = self.found[match[1]]
        to_index = from_index
        if match[2] is not None:
            to_index, to_run = self.found.get(self.to_name(match[1], match[2][1:]), (0, None))
            if to_run != number or to_index <= from_index:
                return None
        mark = match[3] or ""
        if mark in ("", "!"):
            return (from_index, to_index, 0, len(mark), 0)
        if match[2] is not None or mark[1] == "n" and (len(mark) > 11 or int(mark[2:-1]) > MOST_NOTE):
            return None
        return (from_index, to_index, "?nft".index(mark[1]), 0, int(mark[2:-1] or 0))


def pages_of(place):
    return set(range(place[0], place[1] + 1))


def model_joined(bounds, joins, stretches):
    """Two at a time are joined until none is left; bounds are the indexes of runs' first pages."""
    stretches = list(stretches)
    again = True
    while again:
        again = False
        for first, second in product(stretches, repeat=2):
            if first is second:
                continue
            side_by_side = joins and first[1] + 1 == second[0] and second[0] not in bounds
            if side_by_side or pages_of(first) & pages_of(second):
                stretches.remove(first)
                stretches.remove(second)
                stretches.append((min(first[0], second[0]), max(first[1], second[1])) + first[2:])
                again = True
                break
    return stretches


def model_form(bounds, joins, drops, places):
    """The words of the document on a list's one form."""
    formed = []
    covered = set()
    for chief in (1, 0):
        own = [place for place in places if place[2] == 0 and place[3] == chief]
        formed += model_joined(bounds, joins, own)
        covered |= set().union(*[pages_of(place) for place in own])
    others = {place for place in places if place[2] != 0}
    formed += [place for place in others if not (drops and place[0] in covered)]
    return sorted(formed, key=lambda place: (place[0], -place[3], place[2], place[4]))


def pages_by_kinds(places):
    """Every page with kind, main and note."""
    return {(index,) + tuple(place[2:]) for place in places for index in pages_of(place)}


def random_place(source, runs):
    """A right place in one of the runs, each told by its first and last index."""
    first, last_index = source.choice(runs)
    start = source.randint(first, last_index)
    kind = source.choice((0, 0, 0, 1, 2, 3))
    if kind == 0:
        return (start, min(last_index, start + source.choice((0, 0, 1, 2, 3, 5))), 0, source.randint(0, 1), 0)
    return (start, start, kind, 0, source.choice((1, 2, 3, 10, MOST_NOTE)) if kind == 1 else 0)
