"""A place read from its text, whatever the way it was cut short."""

from headplaces.numerals import DIGITS
from headplaces.place import FIGURE, NOTE, PLAIN, TABLE, Place, is_right

MOST_PAGE_DIGITS = 5
MOST_NOTE_DIGITS = 8


# None if it is no number without a 0 in front, or one of more digits than most:
# a row of very many digits is never made a number.
def plain_number(text, most):
    if not text.isdigit() or text[0] == "0" or len(text) > most:
        return None
    return int(text)


def number_of_to(from_number, digits):
    from_digits = str(from_number)
    kept = len(from_digits) - len(digits)
    if kept > 0:
        return int(from_digits[:kept] + digits)
    return plain_number(digits, MOST_PAGE_DIGITS)


# None if what is told is no page of the run.
def index_of_to(book, run, from_index, told):
    if run.style == DIGITS and told.isdigit():
        number = number_of_to(run.number_at(from_index), told)
        if number is None or not run.has_number(number):
            return None
        return run.index_at(number)
    index = book.index_of_name(told)
    if index is None or not run.has_index(index):
        return None
    return index


# From and to as a list; none if the text tells no such pages.
def pages_told(book, text):
    dash = text.find("-")
    from_index = book.index_of_name(text if dash == -1 else text[:dash])
    if from_index is None:
        return []
    if dash == -1:
        return [from_index, from_index]
    to_index = index_of_to(book, book.run_at(from_index), from_index, text[dash + 1:])
    if to_index is None or to_index <= from_index:
        return []
    return [from_index, to_index]


# Kind, main and note as a list; none if these are no marks.
def marks_told(marks):
    if marks == "":
        return [PLAIN, 0, 0]
    if marks == "!":
        return [PLAIN, 1, 0]
    if marks == "[f]":
        return [FIGURE, 0, 0]
    if marks == "[t]":
        return [TABLE, 0, 0]
    if not marks.startswith("[n") or not marks.endswith("]"):
        return []
    note = plain_number(marks[2:len(marks) - 1], MOST_NOTE_DIGITS)
    if note is None:
        return []
    return [NOTE, 0, note]


# What stands before the marks is looked at as names, and no name has a [ or a !:
# so marks that are too many are found wrong on either side.
def marks_start(text):
    if text.endswith("!"):
        return len(text) - 1
    bracket = text.find("[")
    if bracket == -1:
        return len(text)
    return bracket


# None if it is no place's text.
def place_told(book, text):
    start = marks_start(text)
    pages = pages_told(book, text[:start])
    marks = marks_told(text[start:])
    if len(pages) == 0 or len(marks) == 0:
        return None
    place = Place(pages + marks)
    if not is_right(book, place):
        return None
    return place
