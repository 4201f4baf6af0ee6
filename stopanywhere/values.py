"""What the other files ask of plain values."""


def is_number(thing):
    """Whether any value is a number; True and False are none."""
    return isinstance(thing, int) and not isinstance(thing, bool)


def is_number_between(thing, low, high):
    return is_number(thing) and low <= thing <= high


def is_tuple_of(thing, many):
    """Whether any value is a tuple of so many."""
    return isinstance(thing, tuple) and len(thing) == many


def is_list(thing):
    """Whether any value stands where a list is expected, as a tuple may."""
    return isinstance(thing, (list, tuple))


def ascending(table):
    """A new dict of the same items, its keys ascending."""
    return {key: table[key] for key in sorted(table)}


def first_again(names):
    """The index of the first name that stands ahead of itself already, None if none does."""
    seen = set()
    for at, name in enumerate(names):
        if name in seen:
            return at
        seen.add(name)
    return None
