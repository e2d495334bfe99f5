"""The one form of a list of places, by the house's rules."""

from headplaces.lists import first_with_page
from headplaces.place import PLAIN, Place

RANK_OF_MAIN = 0
RANK_OF_PLAIN = 1


def rank_of(place):
    if place.main == 1:
        return RANK_OF_MAIN
    return RANK_OF_PLAIN + place.kind


def order_of(place):
    return (place.from_index, rank_of(place), place.note)


# The second begins no earlier than the first.
def are_joined(book, joins, first, second):
    if second.from_index <= first.to_index:
        return True
    if joins == 0 or second.from_index != first.to_index + 1:
        return False
    return book.run_at(first.to_index).has_index(second.from_index)


def join_two(first, second):
    to_index = max(first.to_index, second.to_index)
    return Place([first.from_index, to_index, PLAIN, first.main, 0])


# In the order of their first pages, a place that isn't joined with the stretch
# made last is joined with no stretch made before it either.
def joined(book, joins, places):
    stretches = []
    for place in sorted(places, key=order_of):
        if len(stretches) > 0 and are_joined(book, joins, stretches[-1], place):
            stretches[-1] = join_two(stretches[-1], place)
        else:
            stretches.append(place)
    return stretches


def each_once(places):
    seen = {}
    for place in places:
        seen.setdefault(order_of(place), place)
    return list(seen.values())


def beside(places, stretches):
    return [place for place in places if first_with_page(stretches, place.from_index) is None]


def form_of(book, joins, drops, places):
    chief = joined(book, joins, [place for place in places if place.main == 1])
    plain = joined(book, joins, [place for place in places if place.kind == PLAIN and place.main == 0])
    others = each_once([place for place in places if place.kind != PLAIN])
    if drops == 1:
        others = beside(others, chief + plain)
    return sorted(chief + plain + others, key=order_of)
