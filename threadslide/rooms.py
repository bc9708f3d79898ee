"""Rooms: a row in which boxes are made, given other things and pushed together."""

from threadslide.errors import BadSize, BadThing, NoBox, NoField, NoRoom
from threadslide.sliding import field_words, heads, pushed, reached
from threadslide.words import fields_of, head_word, is_link, link_word, number_word, told_by

MOST_CELLS = 400
MOST_DOORS = 20
# The first number that has sixty-one figures.
TOO_LONG = 10 ** 60


def is_whole(n):
    """Whether something is a whole number."""
    # Compared, not counted in figures: Python refuses to write very long numbers out.
    return isinstance(n, int) and not isinstance(n, bool) and -TOO_LONG < n < TOO_LONG


def is_thing(thing):
    """Whether something is ("number", n) or ("box", n) of a whole number n."""
    if not isinstance(thing, tuple) or len(thing) != 2:
        return False
    kind, n = thing
    return isinstance(kind, str) and kind in ("number", "box") and is_whole(n)


def words_of(things, places):
    """The words of things in a row that has boxes at these places."""
    # All things are looked at ahead of any place, so that what is no thing is refused first.
    for thing in things:
        if not is_thing(thing):
            raise BadThing('a thing is ("number", n) or ("box", n) of a whole number n')
    for kind, n in things:
        if kind == "box" and n not in places:
            raise NoBox("a thing leads to a place that is no place of a box")
    return [link_word(n) if kind == "box" else number_word(n) for kind, n in things]


def thing_of(word):
    """The thing that a field of this word holds."""
    if is_link(word):
        return ("box", told_by(word))
    return ("number", told_by(word))


class Room:
    """A row of so many cells, at first with just a door of so many fields."""

    def __init__(self, size, doors):
        if not is_whole(size) or not 1 <= size <= MOST_CELLS:
            raise BadSize(f"a room has from 1 to {MOST_CELLS} cells")
        if not is_whole(doors) or not 0 <= doors <= MOST_DOORS:
            raise BadSize(f"a door has from 0 to {MOST_DOORS} fields")
        if doors + 1 > size:
            raise BadSize("the door has no room in the row")
        # The word of the number 0 is 0, as are the cells behind the boxes.
        self._row = [head_word(doors, False)] + [0] * (size - 1)
        self._used = doors + 1

    def made(self, things):
        """Makes a box behind the last one, a field for each thing; the place of the box."""
        words = words_of(things, self.places())
        place = self._used
        behind = place + 1 + len(words)
        if behind > len(self._row):
            raise NoRoom("the row has too few cells behind the last box")
        self._row[place:behind] = [head_word(len(words), False), *words]
        self._used = behind
        return place

    def put(self, place, field, thing):
        """Gives a field of a box another thing."""
        self._require_box(place)
        if not is_whole(field) or not 0 <= field < fields_of(self._row[place]):
            raise NoField("the box has no such field")
        words = words_of([thing], self.places())
        self._row[place + 1 + field] = words[0]

    def told(self, place):
        """The things in the fields of a box."""
        self._require_box(place)
        return [thing_of(word) for word in field_words(self._row, place)]

    def places(self):
        """The places of all boxes, rising."""
        return heads(self._row, self._used)

    def come_to(self):
        """The places of the boxes that can be come to, rising."""
        return reached(self._row, self._used)

    def pushed(self):
        """Pushes the room together; how many cells fewer are used then."""
        ahead = self._used
        self._row, self._used = pushed(self._row, ahead)
        return ahead - self._used

    def used(self):
        """How many cells are used."""
        return self._used

    def cells(self):
        """All cells."""
        return list(self._row)

    def _require_box(self, place):
        """Refuses what is no place of a box."""
        # True and False are no places, though they equal 1 and 0: so the kind is asked first.
        if not is_whole(place) or place not in self.places():
            raise NoBox("the place is no place of a box")
