"""Lists of places: as numbers, as a text, and which place has a page."""

from headplaces.place import Place, is_right, numbers_of
from headplaces.writing import place_text

NUMBERS_OF_A_PLACE = 5
PARTING = ", "


def places_of(numbers):
    step = NUMBERS_OF_A_PLACE
    return [Place(numbers[start:start + step]) for start in range(0, len(numbers), step)]


def numbers_of_list(places):
    numbers = []
    for place in places:
        numbers.extend(numbers_of(place))
    return numbers


def all_right(book, places):
    for place in places:
        if not is_right(book, place):
            return False
    return True


def list_text(book, way, places):
    return PARTING.join([place_text(book, way, place) for place in places])


def parts_of(text):
    if text == "":
        return []
    return text.split(PARTING)


# None if no place of the list has the page.
def first_with_page(places, index):
    for number, place in enumerate(places):
        if place.from_index <= index <= place.to_index:
            return number
    return None
