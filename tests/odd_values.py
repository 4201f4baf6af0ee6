"""Values of all kinds for places where any value is judged, and ways to change one thing in a value."""

from stopanywhere.forms import Scope
from stopanywhere.plain import Plain, Program
from stopanywhere.texts import read_unit


def nested(many, around):
    found = 0
    for _ in range(many):
        found = around(found)
    return found


def odd_values():
    """Values of all kinds, up to 60 levels deep."""
    program = Program([read_unit("unit u function f() { return 1 }")])
    return [
        0, 1, -1, 2, 9999, 10 ** 12, True, False, None, "", "a", "v0", "r0", "is", "row", "unit", "not", " ", "%", "\u00e9",
        "\u00b2", [], (), {}, [0], (0,), {0: 0}, {"a": ()}, {True: 1}, ((),), ([],), ("a",), ("name",), ["name", "a"],
        ("name", "a"), ("number", 1), ("number", True), ("truth", 1), ("call", "f", []), (None, None), (None, "mark", ()),
        ("unit", "a", (), (), ()), ("face", "a", (), ()), ("unit", "a", [], (), ()), ({}, []), ("f", "number", {}),
        nested(60, lambda thing: (thing,)), nested(60, lambda thing: [thing]), nested(60, lambda thing: {"a": thing}),
        nested(30, lambda thing: ("not", thing)), nested(58, lambda thing: ("not", thing)),
        nested(30, lambda thing: (("while", ("truth", True), thing),)),
        nested(29, lambda thing: ("make", "v", (thing,))),
        program, Plain(program, "f", []), Scope([], {}),
    ]


def is_plain_number(thing):
    return isinstance(thing, int) and not isinstance(thing, bool)


def changed(thing, turn):
    """All values that come of one inner value being replaced, by each of what turn gives for it."""
    for other in turn(thing):
        yield other
    if isinstance(thing, (list, tuple)):
        for at, part in enumerate(thing):
            for other in changed(part, turn):
                yield type(thing)(list(thing[:at]) + [other] + list(thing[at + 1:]))
    elif isinstance(thing, dict):
        for key in thing:
            for other in changed(thing[key], turn):
                yield {k: other if k == key else thing[k] for k in thing}


def as_list(thing):
    """A list in the place of a tuple."""
    return [list(thing)] if isinstance(thing, tuple) else []


def as_bool(thing):
    """A bool in the place of a number that is equal to one, and of others."""
    return [bool(thing)] if is_plain_number(thing) else []


def as_number(thing):
    """A number in the place of a bool."""
    return [int(thing)] if isinstance(thing, bool) else []


def paths_in(thing, ahead=()):
    """The ways to all that stands in a value: itself, items, and values of keys."""
    yield ahead
    if isinstance(thing, (list, tuple)):
        for at, part in enumerate(thing):
            yield from paths_in(part, ahead + (at,))
    elif isinstance(thing, dict):
        for key in thing:
            yield from paths_in(thing[key], ahead + (key,))


def at_path(thing, path):
    for step in path:
        thing = thing[step]
    return thing


def with_at(thing, path, part):
    """A value with another part at the end of a way."""
    if not path:
        return part
    first, *rest = path
    if isinstance(thing, dict):
        return {key: with_at(thing[key], rest, part) if key == first else thing[key] for key in thing}
    return type(thing)(with_at(inner, rest, part) if at == first else inner for at, inner in enumerate(thing))


def others_like(thing):
    """Values that differ a little."""
    if isinstance(thing, tuple) and thing:
        return [thing[:-1], thing + thing[-1:], thing[::-1], list(thing)]
    if isinstance(thing, dict) and thing:
        first = next(iter(thing))
        return [{key: thing[key] for key in thing if key != first}, {**thing, "zz": 0}, {**thing, 77: thing[first]}, {**thing, True: thing[first]}]
    if isinstance(thing, str):
        return [thing + "a", "v3", "r1", "s2", "zz", thing[:-1]]
    return [thing + 1, -thing - 1, bool(thing)] if is_plain_number(thing) else []


def bent(rng, thing, many):
    """So many values with one thing otherwise, or perhaps the same, at any place."""
    odd = odd_values()
    paths = list(paths_in(thing))
    for _ in range(many):
        path = rng.choice(paths)
        yield with_at(thing, path, rng.choice(others_like(at_path(thing, path)) + [rng.choice(odd)]))


def has_odd_bools(thing):
    """Whether True or False stands in a value, but for a tree's truths."""
    if isinstance(thing, tuple) and thing[:1] == ("truth",):
        return False
    if isinstance(thing, (list, tuple)):
        return any(has_odd_bools(part) for part in thing)
    if isinstance(thing, dict):
        return any(has_odd_bools(key) or has_odd_bools(thing[key]) for key in thing)
    return isinstance(thing, bool)
