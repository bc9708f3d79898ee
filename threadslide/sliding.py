"""Rows of boxes: where the boxes stand, which can be come to, and how they are pushed together."""

from threadslide.words import fields_of, head_word, is_link, link_word, told_by


def heads(row, used):
    """The places of all boxes, rising."""
    places = []
    place = 0
    while place < used:
        places.append(place)
        place += fields_of(row[place]) + 1
    return places


def field_words(row, place):
    """The words in the fields of the box at a place, in order."""
    return row[place + 1:place + 1 + fields_of(row[place])]


def reached(row, used):
    """The places of the boxes that can be come to, rising."""
    found = {0: True}
    # Boxes wait in a list and not in nested calls, as a way through a row may have hundreds of steps.
    waiting = [0]
    while waiting:
        box = waiting.pop()
        for word in field_words(row, box):
            if is_link(word) and told_by(word) not in found:
                found[told_by(word)] = True
                waiting.append(told_by(word))
    return [place for place in heads(row, used) if place in found]


def marked(row, used):
    """The row in which just the boxes that can be come to are marked."""
    cells = list(row)
    for place in reached(row, used):
        cells[place] = head_word(fields_of(row[place]), True)
    return cells


def places_behind(row, kept):
    """Where each of the kept boxes stands once they are pushed together: a dict from place to place."""
    places = {}
    free = 0
    for place in kept:
        places[place] = free
        free += fields_of(row[place]) + 1
    return places


def moved(word, places):
    """The word of a field once the boxes stand at their new places."""
    if is_link(word):
        return link_word(places[told_by(word)])
    return word


def pushed(row, used):
    """The row pushed together, and how many of its cells are used then."""
    kept = reached(row, used)
    places = places_behind(row, kept)
    cells = []
    for place in kept:
        cells.append(head_word(fields_of(row[place]), False))
        cells.extend([moved(word, places) for word in field_words(row, place)])
    many = len(cells)
    return cells + [0] * (len(row) - many), many
