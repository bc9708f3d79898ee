"""Boxes told by their numbers instead of their places: what the tests hold the program to.

Boxes are a list of lists of fields, the door first. A field is a whole number, or To(k): a link to the k-th box.
Nothing of the program is imported here.
"""

GREATEST = 10 ** 60 - 1


class To:
    """A link to the k-th box, counted from nought."""

    def __init__(self, k):
        self.k = k

    def __eq__(self, other):
        return isinstance(other, To) and self.k == other.k

    def __repr__(self):
        return f"To({self.k})"


def places_of(boxes):
    """Where boxes stand that stand side by side."""
    return [sum(len(fields) + 1 for fields in boxes[:k]) for k in range(len(boxes))]


def used_by(boxes):
    """How many cells boxes fill."""
    return sum(len(fields) + 1 for fields in boxes)


def row_of(boxes, size=None, marks=()):
    """The row of boxes: of so many cells, or of just as many as they fill; marks tells which are marked."""
    places = places_of(boxes)
    row = []
    for k, fields in enumerate(boxes):
        row.append(4 * len(fields) + (2 if k in marks else 0))
        row += [2 * places[field.k] + 1 if isinstance(field, To) else 2 * field for field in fields]
    return row + [0] * ((len(row) if size is None else size) - len(row))


def kept_of(boxes):
    """The numbers of the boxes that can be come to, rising."""
    kept = {0}
    while True:
        more = {field.k for k in kept for field in boxes[k] if isinstance(field, To)} - kept
        if not more:
            return sorted(kept)
        kept |= more


def pushed_boxes(boxes):
    """The boxes that are left once they are pushed together."""
    kept = kept_of(boxes)
    return [[To(kept.index(field.k)) if isinstance(field, To) else field for field in boxes[k]] for k in kept]


def things_of(boxes):
    """What a room with these boxes tells of each of them."""
    places = places_of(boxes)
    return [[("box", places[field.k]) if isinstance(field, To) else ("number", field) for field in fields]
            for fields in boxes]


class Dice:
    """Numbers that look thrown and are the same in each run."""

    def __init__(self, seed):
        self.state = seed

    def below(self, n):
        self.state = (self.state * 6364136223846793005 + 1442695040888963407) % 2 ** 64
        return (self.state >> 33) % n

    def field(self, many, links):
        """A field of one of many boxes; links tells how many of ten fields are links."""
        if self.below(10) < links:
            return To(self.below(many))
        return (0, 1, -1, 2, 7, -8, 400, GREATEST, -GREATEST, self.below(1000))[self.below(10)]

    def boxes(self, cells, most_fields, links):
        """Boxes that fill at most so many cells."""
        sizes = [min(self.below(most_fields + 1), cells - 1)]
        while True:
            size = self.below(most_fields + 1)
            if sum(sizes) + len(sizes) + size + 1 > cells:
                break
            sizes.append(size)
        return [[self.field(len(sizes), links) for _ in range(size)] for size in sizes]


def thrown_boxes(rounds):
    """Boxes of many kinds, small ones and such as fill up to 400 cells."""
    dice = Dice(20261119)
    for k in range(rounds):
        cells = (1, 2, 5, 12, 30, 80, 200, 400)[k % 8]
        yield dice.boxes(cells, 1 + dice.below(6), 1 + dice.below(9)), cells
