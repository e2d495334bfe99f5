"""A place as it is handed over, and whether it is right."""

PLAIN = 0
NOTE = 1
FIGURE = 2
TABLE = 3
MOST_NOTE = 16777215


class Place:
    def __init__(self, numbers):
        self.from_index = numbers[0]
        self.to_index = numbers[1]
        self.kind = numbers[2]
        self.main = numbers[3]
        self.note = numbers[4]


def numbers_of(place):
    return [place.from_index, place.to_index, place.kind, place.main, place.note]


def has_right_pages(book, place):
    run = book.run_at(place.from_index)
    if run is None or not run.has_index(place.to_index):
        return False
    return place.from_index <= place.to_index


def has_right_kind(place):
    if place.kind == PLAIN:
        return True
    return place.kind <= TABLE and place.from_index == place.to_index and place.main == 0


def has_right_note(place):
    if place.kind == NOTE:
        return 1 <= place.note <= MOST_NOTE
    return place.note == 0


def is_right(book, place):
    return has_right_pages(book, place) and has_right_kind(place) and has_right_note(place)
