"""The words of a row: numbers, links and the heads of boxes, each a whole number."""


def number_word(n):
    """The word of the number n."""
    return 2 * n


def link_word(place):
    """The word of a link to a place."""
    return 2 * place + 1


def head_word(many, marked):
    """The head of a box with so many fields, marked or not."""
    if marked:
        return 4 * many + 2
    return 4 * many


def is_link(word):
    """Whether a word is a link; odd words are."""
    return word % 2 == 1


def told_by(word):
    """The number that a word holds, or the place to which it leads."""
    # Floor division is exact at any length and rounds down below nought, too.
    return word // 2


def fields_of(head):
    """How many fields the box of a head has, whether it is marked or not."""
    return head // 4


def is_marked(head):
    """Whether a head is marked."""
    return head % 4 == 2
