"""The object that calls come on: each method answers one call."""

from headplaces.book import Book
from headplaces.forming import form_of
from headplaces.lists import all_right, first_with_page, list_text, numbers_of_list, parts_of, places_of
from headplaces.numerals import LETTERS, Numerals, most_of_style
from headplaces.place import Place, is_right, numbers_of
from headplaces.reading import place_told
from headplaces.signs import bytes_of, signs_by_byte, text_of
from headplaces.writing import place_text

MOST_WAY = 4
MOST_RUNS = 64
MOST_PAGES = 65536
MOST_PREFIX = 4
MOST_PLACES = 256
MOST_LIST_BYTES = 32768
NOT_REFUSED = 0


def refused(number):
    return [-number]


def answered(numbers):
    return [0] + numbers


def is_prefix(text):
    if len(text) > MOST_PREFIX:
        return False
    for sign in text:
        if not sign.isalpha() and sign != ".":
            return False
    return True


def is_run(style, first, count, prefix):
    if style > LETTERS or first == 0 or count == 0:
        return False
    return first + count - 1 <= most_of_style(style) and is_prefix(prefix)


# What a call that a list of places is handed to refuses first.
def refusal_of_list(book, places):
    if len(places) > MOST_PLACES:
        return 1
    if not all_right(book, places):
        return 2
    return NOT_REFUSED


class Session:
    def __init__(self):
        self.way = 0
        self.joins = 0
        self.drops = 0
        self.numerals = Numerals()
        self.signs = signs_by_byte()
        self.book = Book(self.numerals)

    def begin(self, way, joins, drops):
        if way > MOST_WAY or joins > 1 or drops > 1:
            return refused(1)
        self.way = way
        self.joins = joins
        self.drops = drops
        self.book = Book(self.numerals)
        return answered([0])

    def run(self, style, first, count, told):
        prefix = text_of(self.signs, told)
        if not is_run(style, first, count, prefix):
            return refused(1)
        run_number = len(self.book.runs)
        if run_number == MOST_RUNS or self.book.total + count > MOST_PAGES:
            return refused(2)
        if not self.book.add_run(style, first, count, prefix):
            return refused(3)
        return answered([run_number])

    def pages(self):
        return answered([self.book.total])

    def name(self, index):
        run = self.book.run_at(index)
        if run is None:
            return refused(1)
        return answered(bytes_of(run.name_at(index)))

    def page(self, told):
        index = self.book.index_of_name(text_of(self.signs, told))
        if index is None:
            return refused(3)
        return answered([index])

    def write(self, numbers):
        place = Place(numbers)
        if not is_right(self.book, place):
            return refused(2)
        return answered(bytes_of(place_text(self.book, self.way, place)))

    def read(self, told):
        place = place_told(self.book, text_of(self.signs, told))
        if place is None:
            return refused(3)
        return answered(numbers_of(place))

    def form(self, numbers):
        places = places_of(numbers)
        refusal = refusal_of_list(self.book, places)
        if refusal != NOT_REFUSED:
            return refused(refusal)
        return answered(numbers_of_list(form_of(self.book, self.joins, self.drops, places)))

    def text(self, numbers):
        places = places_of(numbers)
        refusal = refusal_of_list(self.book, places)
        if refusal != NOT_REFUSED:
            return refused(refusal)
        return answered(bytes_of(list_text(self.book, self.way, places)))

    # Every part is looked at, however many, before the places are counted.
    def places_told(self, told):
        if len(told) > MOST_LIST_BYTES:
            return refused(1)
        places = []
        for number, part in enumerate(parts_of(text_of(self.signs, told))):
            place = place_told(self.book, part)
            if place is None:
                return refused(3) + [number]
            places.append(place)
        if len(places) > MOST_PLACES:
            return refused(4)
        return answered(numbers_of_list(places))

    def has(self, index, numbers):
        places = places_of(numbers)
        refusal = refusal_of_list(self.book, places)
        if refusal != NOT_REFUSED:
            return refused(refusal)
        number = first_with_page(places, index)
        if number is None:
            return refused(3)
        return answered([number])
