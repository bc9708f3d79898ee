"""What all refusals are."""


class SlideError(ValueError):
    """A refusal; catch this one to catch each of them."""


class BadSize(SlideError):
    """The size of a room, or the fields of its door, are no such whole numbers."""


class BadThing(SlideError):
    """A thing is neither ("number", n) nor ("box", n) of a whole number n."""


class NoBox(SlideError):
    """A place is no place of a box."""


class NoField(SlideError):
    """A box has no such field."""


class NoRoom(SlideError):
    """The row has too few cells behind the last box."""
