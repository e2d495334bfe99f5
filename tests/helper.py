"""Calls as lists of numbers, answers taken apart, and a plain model to compare with."""

from itertools import product
from string import ascii_lowercase

from headplaces.places import answers

MOST_NUMBER = 4294967295
MOST_BY_STYLE = (99999, 3999, 3999, 702)


def begin(way, joins=0, drops=0):
    return [1, way, joins, drops]


def run(style, first, count, prefix=""):
    told = as_bytes(prefix)
    return [2, style, first, count, len(told)] + told


def pages():
    return [3]


def name(index):
    return [4, index]


def page(told):
    told = as_bytes(told)
    return [5, len(told)] + told


def write(from_index, to_index, kind=0, main=0, note=0):
    return [6, 5, from_index, to_index, kind, main, note]


def as_bytes(told):
    return [ord(sign) for sign in told] if isinstance(told, str) else list(told)


def as_text(answer):
    """The text of an answer of bytes; of a refusal its number."""
    if answer[0] != 0:
        return answer[0] if len(answer) == 1 else answer
    return "".join(chr(byte) for byte in answer[1:])


def split(told):
    """The answers, one list a call."""
    parts = []
    position = 0
    while position < len(told):
        length = told[position]
        parts.append(told[position + 1:position + 1 + length])
        if len(parts[-1]) != length:
            raise AssertionError("an answer is shorter than its count says")
        position += 1 + length
    return parts


def ask(*calls):
    """The answers to the calls, in order, on one new object."""
    handed = [number for call in calls for number in call]
    parts = split(answers(handed))
    if len(parts) != len(calls):
        raise AssertionError(f"{len(calls)} calls, {len(parts)} answers")
    return parts


def ask_behind(calls, queries):
    """The answers to the queries behind the calls, in as many lines as they need."""
    found = []
    ahead = sum(len(call) for call in calls)
    room = []
    used = ahead
    for query in list(queries) + [None]:
        full = query is None or used + len(query) > 31000 or len(calls) + len(room) == 3000
        if full and room:
            found.extend(ask(*calls, *room)[len(calls):])
            room = []
            used = ahead
        if query is not None:
            room.append(query)
            used += len(query)
    return found


def last(*calls):
    return ask(*calls)[-1]


def last_text(*calls):
    return as_text(last(*calls))


def model_roman(number):
    steps = ((1000, "m"), (900, "cm"), (500, "d"), (400, "cd"), (100, "c"), (90, "xc"), (50, "l"),
             (40, "xl"), (10, "x"), (9, "ix"), (5, "v"), (4, "iv"), (1, "i"))
    text = ""
    for value, letters in steps:
        while number >= value:
            text += letters
            number -= value
    return text


MODEL_LETTERS = list(ascii_lowercase) + [a + b for a, b in product(ascii_lowercase, repeat=2)]


def model_number(style, number):
    if style == 0:
        return str(number)
    if style == 1:
        return model_roman(number)
    if style == 2:
        return model_roman(number).upper()
    return MODEL_LETTERS[number - 1]


def model_names(style, first, count, prefix=""):
    return [prefix + model_number(style, number) for number in range(first, first + count)]


class ModelBook:
    """The words of the document on runs, with every name written out."""

    def __init__(self):
        self.names = []
        self.runs = 0

    def run(self, style, first, count, prefix):
        if style > 3 or first == 0 or count == 0 or first + count - 1 > MOST_BY_STYLE[style]:
            return [-1]
        if len(prefix) > 4 or any(not sign.isalpha() and sign != "." for sign in prefix):
            return [-1]
        if self.runs == 64 or len(self.names) + count > 65536:
            return [-2]
        names = model_names(style, first, count, prefix)
        if set(names) & set(self.names):
            return [-3]
        self.names.extend(names)
        self.runs += 1
        return [0, self.runs - 1]
