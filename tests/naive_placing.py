"""A test's own placed code: each named place lies in a slot of its own, and registers are taken for one row alone."""

SPARE = 900


def placed_of(code):
    """Placed code, for 9 registers, that does what named code does; with few enough places."""
    name, result, blocks = code
    given = [place for parameters, rows, _ in blocks.values() for place in [p for p, _ in parameters] + [r[0] for r in rows]]
    slots = {place: f"s{at}" for at, place in enumerate(place for place in given if place is not None)}
    assert len(slots) < SPARE
    tried = {number for _, _, end in blocks.values() if end[0] == "try" for number in end[3:]}
    found = {}
    for number, (parameters, rows, end) in blocks.items():
        places, taken = dict(slots), ()
        if number == 0 or number in tried:
            taken = tuple((f"r{at}", kind) for at, (_, kind) in enumerate(parameters))
            places.update((place, f"r{at}") for at, (place, _) in enumerate(parameters))
        told = [rows[0][:2] + (turned(rows[0][2], places),)]
        told.extend((slots[place], "copy", f"r{at}") for at, (place, _) in enumerate(parameters) if taken)
        for row in rows[1:]:
            told.extend(placed_row(row, slots))
        last = placed_end(end, slots, blocks)
        found[number] = (taken, (*told, *last[:-1]), last[-1])
    return name, result, found


def turned(thing, places):
    if isinstance(thing, tuple):
        return tuple(turned(part, places) for part in thing)
    return places.get(thing, thing) if isinstance(thing, str) else thing


def loaded(parts, slots, first):
    """Copies of the places in the parts of a row into registers, and the parts with these."""
    rows, found = [], []
    for part in parts:
        if isinstance(part, tuple):
            inner, told = loaded(part, slots, first + len(rows))
            rows.extend(inner)
            found.append(tuple(told))
        elif part in slots:
            place = f"r{first + len(rows)}"
            rows.append((place, "copy", slots[part]))
            found.append(place)
        else:
            found.append(part)
    return rows, found


def placed_row(row, slots):
    place, word = row[:2]
    if word in ("mark", "back", "still"):
        return [(None, word, turned(row[2], slots))]
    rows, parts = loaded(row[2:], slots, 0 if word == "call" else 1)
    if place is None:
        return [*rows, (None, word, *parts)]
    return [*rows, ("r0", word, *parts), (slots[place], "copy", "r0")]


def placed_end(end, slots, blocks):
    word = end[0]
    if word != "jump":
        rows, parts = loaded(end[1:], slots, 0)
        return [*rows, (word, *parts)]
    found = []
    for at, argument in enumerate(end[2]):
        found.extend([("r0", "copy", slots[argument]), (f"s{SPARE + at}", "copy", "r0")])
    for at, (place, _) in enumerate(blocks[end[1]][0]):
        found.extend([("r0", "copy", f"s{SPARE + at}"), (slots[place], "copy", "r0")])
    return [*found, ("jump", end[1], ())]
