"""A test's own way of asking papers of steps: by runs of the old and the new codes beside one another."""

from stopanywhere.heaps import pictures
from stopanywhere.runner import Codes


class Visits:
    """What a run meets in the frames of one function: by these frames and by keys the lists of snapshots.

    Keys are ("at", block) where a frame comes to a block's first spot, ("in", block, index, function, inner) where a
    frame that it called at this spot does, ("behind", block, index) where a call came back. A snapshot is a triple:
    the heap and the places, those of the called frame ahead of those of the calling one.
    """

    def __init__(self, kinds, codes, name, function, arguments, most):
        self.name = name
        self.found = {}
        self.ids = []
        self.count = 0
        runner = Codes(kinds, list(codes.values()))
        self.scope = runner.scope
        state = runner.begin(function, arguments)
        self.meet(state, 0)
        for _ in range(most):
            before = len(state[0])
            state = runner.step(state)
            if state[0] == ():
                break
            self.meet(state, before)
        self.end = state[3]

    def meet(self, state, before):
        frames = state[0]
        del self.ids[len(frames):]
        if len(frames) > len(self.ids):
            self.ids.append(self.count)
            self.count += frames[-1][0] == self.name
        function, block, index, places = frames[-1]
        if function == self.name and (index == 0 or len(frames) < before):
            key = ("at", block) if index == 0 else ("behind", block, index)
            self.add(self.ids[-1], key, state, [places])
        if len(frames) > 1 and frames[-2][0] == self.name and index == 0:
            _, outer, at, others = frames[-2]
            self.add(self.ids[-2], ("in", outer, at, function, block), state, [places, others])

    def add(self, frame, key, state, places):
        self.found.setdefault((frame, key), []).append((state[1], places))


def told(formula, places, heap):
    if formula[0] == "is":
        return formula[1]
    if formula[0] == "of":
        _, place, sign, number = formula
        return sign * places[place] + number
    _, variant, parts = formula
    return variant, [told(part, places, heap) for part in parts]


def look(scope, heap, kind, word):
    """What a word, or a box that need not be there, looks like."""
    if isinstance(word, tuple):
        variant, parts = word
        fields = zip(scope.fields(variant), parts)
        return variant, tuple(look(scope, heap, field, part) for field, part in fields)
    found, rows = pictures(scope, heap, [(kind, word)])
    if kind != "number" and isinstance(found[0], tuple) and found[0][0] != "row":
        shape, words = heap[word]
        return shape, tuple(look(scope, heap, field, part) for field, part in zip(scope.fields(shape), words))
    return found[0], rows


def fact_holds(row, places, scope, heap):
    place, word = row[:2]
    held = places[place]
    if word == "const":
        return held == row[2]
    if word == "copy":
        return held == places[row[2]]
    if word == "not":
        return held == (places[row[2]] == 0)
    if word == "make":
        shape, words = heap[held]
        told = [look(scope, heap, kind, places[other]) for kind, other in zip(scope.fields(shape), row[3])]
        return shape == row[2] and told == [look(scope, heap, k, w) for k, w in zip(scope.fields(shape), words)]
    if word in ("tag", "part", "long"):
        shape, words = heap.get(places[row[-1]], (None, ()))
        if word == "tag":
            return held == (scope.variants(scope.choice(shape)).index(shape) if shape else 0)
        if word == "part":
            return held == (words[row[3]] if shape == row[2] else 0)
        return held == len(words)
    one, other = places[row[2]], places[row[3]]
    return held == {
        "plus": one + other, "minus": one - other, "times": one * other, "less": one < other, "atmost": one <= other,
        "same": one == other,
    }[word]


PURE = "const copy plus minus times less atmost same not make tag part long".split()


def places_in(thing):
    """The places in a formula, or in a row behind its word."""
    if isinstance(thing, tuple):
        return [place for part in thing for place in places_in(part)]
    return [thing] if isinstance(thing, str) and thing[:1] == "v" and thing[1:].isdigit() else []


def check_form(test, scope, codes, name, code, paper, kinds_at):
    """Whether a paper has the form of point 91, for a step's new code; of many blocks the first and the last ones."""
    numbers = list(paper)
    test.assertEqual(numbers, sorted(code[2]))
    for number in sorted(set(numbers[:2] + numbers[-3:])):
        anchor, facts, late = paper[number]
        held = kinds_at(code, (number, 0))
        test.assertTrue(1 <= len(anchor) <= 12)
        test.assertEqual(anchor[-1][0], name)
        called = None
        for function, block, index, equations in anchor:
            _, rows, _ = codes[function][2][block]
            if called is not None:
                test.assertEqual(rows[index][1:3], ("call", called))
            called = function
            there = kinds_at(codes[function], (block, index))
            test.assertEqual(list(equations), sorted(equations))
            for place, formula in equations.items():
                check_formula(test, scope, formula, there[place], held)
        for at, row in enumerate(facts):
            test.assertIn(row[1], PURE)
            test.assertIn(row[0], held)
            reads = places_in(row[2:])
            test.assertTrue(all(place in held for place in reads))
            test.assertFalse(set(reads) & {other[0] for other in facts[at:]})
        test.assertEqual(len({row[0] for row in facts}), len(facts))
        test.assertTrue(late is False or (late is True and code[2][number][1][0][1] == "back"))
    parameters = zip(codes[name][2][0][0], code[2][0][0])
    test.assertEqual(paper[0], (((name, 0, 0, {old: ("of", new, 1, 0) for (old, _), (new, _) in parameters}),), (), False))


def check_formula(test, scope, formula, kind, held):
    if formula[0] == "is":
        test.assertEqual(kind, "number")
    elif formula[0] == "of":
        test.assertEqual(held[formula[1]], kind)
        test.assertIn(formula[2], (1, -1))
        test.assertTrue(kind == "number" or formula[2:] == (1, 0))
    else:
        _, variant, parts = formula
        test.assertEqual((formula[0], scope.choice(variant)), ("make", kind))
        test.assertEqual(len(parts), len(scope.fields(variant)))
        for part, field in zip(parts, scope.fields(variant)):
            check_formula(test, scope, part, field, held)


def check_paper(test, kinds, codes, name, code, paper, function, arguments, most, kinds_at):
    """Whether all that a paper tells holds in a run, wherever the new code comes to a block."""
    old = Visits(kinds, codes, name, function, arguments, most)
    new = Visits(kinds, {**codes, name: code}, name, function, arguments, most)
    asked = 0
    for (frame, key), visits in new.found.items():
        if key[0] != "at":
            continue
        anchor, facts, late = paper[key[1]]
        spot = anchor[-1][1:3]
        if len(anchor) == 2:
            others = old.found.get((frame, ("in", *spot, anchor[0][0], anchor[0][1])), [])
        elif late:
            others = old.found.get((frame, ("behind", *spot)), [])
        else:
            others = old.found.get((frame, ("at", spot[0])), [])
        # A run that is cut, or whose steps are not as many, may have come less far.
        for (heap, places), (other_heap, other_places) in zip(visits, others):
            for row in facts:
                test.assertTrue(fact_holds(row, places[0], new.scope, heap), (row, places))
            for (called, block, index, equations), held in zip(anchor, other_places):
                held_kinds = kinds_at(codes[called], (block, index))
                for place, formula in equations.items():
                    kind = held_kinds[place]
                    one = look(old.scope, other_heap, kind, held[place])
                    other = look(new.scope, heap, kind, told(formula, places[0], heap))
                    test.assertEqual(one, other, (name, key, place, formula))
                    asked += 1
    return asked
