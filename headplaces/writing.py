"""The text of a place, by a house's way of cutting stretches short."""

from headplaces.numerals import DIGITS
from headplaces.place import FIGURE, NOTE, TABLE

WHOLE_NAME = 0
TWO_DIGITS_AT_LEAST = 2
BY_FROM_NUMBER = 3
TWO_DIGITS_IN_TEENS = 4


# Counted from the first digit of to_number that differs, on to its last.
def differing_digits(from_number, to_number):
    from_digits = str(from_number)
    to_digits = str(to_number)
    if len(from_digits) < len(to_digits):
        return len(to_digits)
    same = 0
    while same < len(to_digits) and from_digits[same] == to_digits[same]:
        same = same + 1
    return len(to_digits) - same


def digits_by_from_number(from_number, to_number):
    rest = from_number % 100
    if from_number < 100 or rest == 0:
        return len(str(to_number))
    differing = differing_digits(from_number, to_number)
    if rest <= 9:
        return differing
    return max(differing, 2)


# How many of to_number's last digits are told.
def digits_told(way, from_number, to_number):
    if way == BY_FROM_NUMBER:
        return digits_by_from_number(from_number, to_number)
    differing = differing_digits(from_number, to_number)
    if way == TWO_DIGITS_AT_LEAST:
        return min(max(differing, 2), len(str(to_number)))
    if way == TWO_DIGITS_IN_TEENS and to_number // 10 % 10 == 1:
        return max(differing, 2)
    return differing


def to_text(run, way, place):
    if way == WHOLE_NAME or run.style != DIGITS:
        return run.name_at(place.to_index)
    to_number = run.number_at(place.to_index)
    digits = str(to_number)
    told = digits_told(way, run.number_at(place.from_index), to_number)
    return digits[len(digits) - told:]


def marks_text(place):
    if place.kind == NOTE:
        number = place.note
        return f"[n{number}]"
    if place.kind == FIGURE:
        return "[f]"
    if place.kind == TABLE:
        return "[t]"
    if place.main == 1:
        return "!"
    return ""


# The place has to be right: nothing is looked at twice here.
def place_text(book, way, place):
    run = book.run_at(place.from_index)
    text = run.name_at(place.from_index)
    if place.to_index != place.from_index:
        text = text + "-" + to_text(run, way, place)
    return text + marks_text(place)
