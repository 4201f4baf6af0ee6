"""Which places are held where, and whether rows and ends find what they read.

Codes have the right form here, and each name, each count and each block that they tell is there.
"""

from stopanywhere.blocks import frames_of, is_context, leads_to, reads_of_end, reads_of_row
from stopanywhere.graphs import order_from

NUMBERS = ("plus", "minus", "times", "less", "atmost", "same", "not", "over", "rest", "show")


def given_kind(row, scope, held):
    """The kind of what a row gives, None if it copies what is not held."""
    word = row[1]
    if word == "copy":
        return held.get(row[2])
    if word == "make":
        return scope.choice(row[2])
    if word == "part":
        return scope.fields(row[2])[row[3]]
    if word == "new":
        return row[2]
    if word == "at":
        return scope.item(row[2])
    if word == "call":
        return scope.gives(row[2])
    return "number"


def pass_row(row, scope, held):
    """Changes what is held to what is held behind a row."""
    place = row[0]
    if place is None:
        return
    kind = given_kind(row, scope, held)
    if row[1] == "call":
        forget_registers(held)
    if kind is None:
        held.pop(place, None)
    else:
        held[place] = kind


def forget_registers(held):
    for place in list(held):
        if place[0] == "r":
            del held[place]


def held_into(end, block, held):
    """What is held at the first spot of a block to which an end leads, behind what is held ahead of the end."""
    found = dict(held)
    if end[0] == "try":
        forget_registers(found)
    for place, kind in block[0]:
        found[place] = kind
    return found


def blocks_in_order(blocks):
    """The numbers of the blocks that are come to from block 0, each ahead of those that it leads to but for rings."""
    return order_from({number: leads_to(blocks[number][2]) for number in blocks}, 0)


def held_at_starts(code, scope):
    """The dict from blocks to the dicts from the places that are held at their first spots to their kinds."""
    _, _, blocks = code
    starts = {0: dict(blocks[0][0])}
    changed = {0: True}
    order = blocks_in_order(blocks)
    while changed:
        for number in order:
            if number in changed:
                del changed[number]
                _, rows, end = blocks[number]
                held = held_behind(rows, scope, starts[number])
                for other in leads_to(end):
                    coming = held_into(end, blocks[other], held)
                    if other in starts:
                        coming = _held_in_both(starts[other], coming)
                    if other not in starts or len(coming) < len(starts[other]):
                        starts[other] = coming
                        changed[other] = True
    return starts


def _held_in_both(one, other):
    return {place: kind for place, kind in one.items() if other.get(place) == kind}


def held_behind(rows, scope, held):
    """What is held behind rows."""
    found = dict(held)
    for row in rows:
        pass_row(row, scope, found)
    return found


def row_finds(row, scope, held):
    """Whether all that a row reads, or tells of, is held with the wanted kinds."""
    if is_context(row):
        return frames_find(frames_of(row), scope, held)
    kinds = [held.get(place) for place in reads_of_row(row)]
    word = row[1]
    if word == "copy":
        return kinds[0] is not None
    if word == "tag":
        # The scope refuses what is no choice.
        return scope.variants(kinds[0]) != ()
    return kinds == _wanted_kinds(row, scope)


def _wanted_kinds(row, scope):
    word = row[1]
    if word in NUMBERS:
        return ["number" for _ in reads_of_row(row)]
    if word == "const":
        return []
    if word == "make":
        return list(scope.fields(row[2]))
    if word == "part":
        return [scope.choice(row[2])]
    if word == "call":
        return list(scope.takes(row[2]))
    kind = row[2]
    if word == "long":
        return [kind]
    if word == "new":
        return ["number", scope.item(kind)]
    if word == "at":
        return [kind, "number"]
    return [kind, "number", scope.item(kind)]


def end_finds(end, scope, held, blocks, result):
    """Whether all that an end reads is held with the wanted kinds; result is the kind of what is returned."""
    kinds = [held.get(place) for place in reads_of_end(end)]
    word = end[0]
    if word == "jump":
        return kinds == [kind for _, kind in blocks[end[1]][0]]
    if word == "try":
        return kinds == list(scope.takes(end[1]))
    return kinds == [result if word == "return" else "number"]


def frames_find(frames, scope, held):
    """Whether all formulas of frames tell words of their kinds by what is held."""
    for _, _, variables in frames:
        for _, kind, formula in variables:
            if not formula_finds(formula, kind, scope, held):
                return False
    return True


def formula_finds(formula, kind, scope, held):
    """Whether a formula tells a word of this kind by what is held."""
    word = formula[0]
    if word == "is":
        return kind == "number"
    if word == "of":
        _, place, sign, number = formula
        return held.get(place) == kind and (kind == "number" or (sign == 1 and number == 0))
    if word == "make":
        _, variant, parts = formula
        fields = scope.fields(variant)
        if scope.choice(variant) != kind or len(parts) != len(fields):
            return False
        for part, field in zip(parts, fields):
            if not formula_finds(part, field, scope, held):
                return False
    return True


class Holdings:
    """What the codes of functions, a dict that is not changed, hold at their spots; each spot is worked out once."""

    def __init__(self, codes, scope):
        self._codes = codes
        self._scope = scope
        self._starts = {}
        self._held = {}

    def starts(self, name):
        """The dict from the blocks of a function to the kinds of what is held at their first spots."""
        if name not in self._starts:
            self._starts[name] = held_at_starts(self._codes[name], self._scope)
        return self._starts[name]

    def held_at(self, name, number, at):
        """The dict from the places that are held ahead of a spot to their kinds."""
        spot = (name, number, at)
        if spot not in self._held:
            rows = self._codes[name][2][number][1]
            self._held[spot] = held_behind(rows[:at], self._scope, self.starts(name)[number])
        return self._held[spot]
