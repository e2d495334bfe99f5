"""The object that calls come on: each method answers one call."""

from headplaces.book import Book
from headplaces.numerals import LETTERS, Numerals, most_of_style
from headplaces.place import Place, is_right
from headplaces.signs import bytes_of, signs_by_byte, text_of
from headplaces.writing import place_text

MOST_WAY = 4
MOST_RUNS = 64
MOST_PAGES = 65536
MOST_PREFIX = 4


def refused(number):
    return [-number]


def answered(numbers):
    return [0] + numbers


def is_prefix(text):
    if len(text) > MOST_PREFIX:
        return False
    for sign in text:
        if not sign.isalpha() and sign != ".":
            return False
    return True


def is_run(style, first, count, prefix):
    if style > LETTERS or first == 0 or count == 0:
        return False
    return first + count - 1 <= most_of_style(style) and is_prefix(prefix)


class Session:
    def __init__(self):
        self.way = 0
        self.joins = 0
        self.drops = 0
        self.numerals = Numerals()
        self.signs = signs_by_byte()
        self.book = Book(self.numerals)

    def begin(self, way, joins, drops):
        if way > MOST_WAY or joins > 1 or drops > 1:
            return refused(1)
        self.way = way
        self.joins = joins
        self.drops = drops
        self.book = Book(self.numerals)
        return answered([0])

    def run(self, style, first, count, told):
        prefix = text_of(self.signs, told)
        if not is_run(style, first, count, prefix):
            return refused(1)
        run_number = len(self.book.runs)
        if run_number == MOST_RUNS or self.book.total + count > MOST_PAGES:
            return refused(2)
        if not self.book.add_run(style, first, count, prefix):
            return refused(3)
        return answered([run_number])

    def pages(self):
        return answered([self.book.total])

    def name(self, index):
        run = self.book.run_at(index)
        if run is None:
            return refused(1)
        return answered(bytes_of(run.name_at(index)))

    def page(self, told):
        index = self.book.index_of_name(text_of(self.signs, told))
        if index is None:
            return refused(3)
        return answered([index])

    def write(self, numbers):
        place = Place(numbers)
        if not is_right(self.book, place):
            return refused(2)
        return answered(bytes_of(place_text(self.book, self.way, place)))
