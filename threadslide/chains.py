"""Fields hung up at the head to which they hold links, and led to a place again."""

from threadslide.words import is_link, link_word, told_by


def hung(row, at):
    """The row in which the field at a cell is hung up at the head to which it holds a link."""
    head = told_by(row[at])
    cells = list(row)
    cells[at] = row[head]
    cells[head] = link_word(at)
    return cells


def led(row, head, place):
    """The row in which the head at a cell is led to a place."""
    cells = list(row)
    word = row[head]
    # The word of a head is even, so the first word that is no link ends the chain.
    while is_link(word):
        at = told_by(word)
        word = row[at]
        cells[at] = link_word(place)
    cells[head] = word
    return cells
