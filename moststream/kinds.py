"""What kind of thing an argument is: integers, numbers and lots."""


def is_int(thing):
    """Whether a thing is an integer: True and False are ints to Python, but not here."""
    return isinstance(thing, int) and not isinstance(thing, bool)


def is_number(thing):
    return is_int(thing) and thing >= 0


def is_number_below(limit, thing):
    return is_number(thing) and thing < limit


def is_tuple_of(many, thing):
    """Whether a thing is a tuple of so many."""
    return isinstance(thing, tuple) and len(thing) == many


def is_lot(thing):
    """Whether a thing is a tuple of numbers, each greater than the one ahead."""
    if not isinstance(thing, tuple) or not all([is_number(item) for item in thing]):
        return False
    return all([one < other for one, other in zip(thing, thing[1:])])
