"""Values of all kinds for places where any value is judged, and ways to change one thing in a value."""

from stopanywhere.forms import Scope
from stopanywhere.plain import Plain, Program
from stopanywhere.texts import read_unit


def nested(many, around):
    found = 0
    for _ in range(many):
        found = around(found)
    return found


def odd_values():
    """Values of all kinds, up to 60 levels deep."""
    program = Program([read_unit("unit u function f() { return 1 }")])
    return [
        0, 1, -1, 2, 9999, 10 ** 12, True, False, None, "", "a", "v0", "r0", "is", "row", "unit", "not", " ", "%", "\u00e9",
        "\u00b2", [], (), {}, [0], (0,), {0: 0}, {"a": ()}, {True: 1}, ((),), ([],), ("a",), ("name",), ["name", "a"],
        ("name", "a"), ("number", 1), ("number", True), ("truth", 1), ("call", "f", []), (None, None), (None, "mark", ()),
        ("unit", "a", (), (), ()), ("face", "a", (), ()), ("unit", "a", [], (), ()), ({}, []), ("f", "number", {}),
        nested(60, lambda thing: (thing,)), nested(60, lambda thing: [thing]), nested(60, lambda thing: {"a": thing}),
        nested(30, lambda thing: ("not", thing)), nested(58, lambda thing: ("not", thing)),
        nested(30, lambda thing: (("while", ("truth", True), thing),)),
        nested(29, lambda thing: ("make", "v", (thing,))),
        program, Plain(program, "f", []), Scope([], {}),
    ]


def is_plain_number(thing):
    return isinstance(thing, int) and not isinstance(thing, bool)


def changed(thing, turn):
    """All values that come of one inner value being replaced, by each of what turn gives for it."""
    for other in turn(thing):
        yield other
    if isinstance(thing, (list, tuple)):
        for at, part in enumerate(thing):
            for other in changed(part, turn):
                yield type(thing)(list(thing[:at]) + [other] + list(thing[at + 1:]))
    elif isinstance(thing, dict):
        for key in thing:
            for other in changed(thing[key], turn):
                yield {k: other if k == key else thing[k] for k in thing}


def as_list(thing):
    """A list in the place of a tuple."""
    return [list(thing)] if isinstance(thing, tuple) else []


def as_bool(thing):
    """A bool in the place of a number that is equal to one, and of others."""
    return [bool(thing)] if is_plain_number(thing) else []


def as_number(thing):
    """A number in the place of a bool."""
    return [int(thing)] if isinstance(thing, bool) else []
