"""Points 95 and 96: roots, and what is told at each spot."""

import random
import unittest

from code_tools import context, kinds_and_codes, numbers_code, sound_programs, starts_of
from odd_values import odd_values
from stopanywhere.errors import BadCode, BadScope, BadSpot, BadWaiting
from stopanywhere.forms import Scope, scope_of_codes
from stopanywhere.passes import lean
from stopanywhere.placing import placed_code
from stopanywhere.runner import Codes
from stopanywhere.tables import roots_at, table, told_at
from stopanywhere.wanted import wanted
from stopanywhere.ways import kinds_at
from test_placing import SCOPE, SORTS

F = Scope([], {"f": (("number", "number"), "number"), "g": (("number",), "number")})
PLACED = placed_code(SORTS, 6)[0]


def order(place):
    return "vrs".index(place[0]), int(place[1:])


def told_roots(code, scope, spot, waiting):
    """The roots by the words of the point."""
    number, at = spot
    kinds = kinds_at(code, scope, spot)
    lists = wanted(code)
    _, rows, end = code[2][number]
    if not waiting:
        found = lists[number][at]
    elif at < len(rows):
        found = [place for place in lists[number][at + 1] if place != rows[at][0] and place[0] != "r"]
    else:
        found = [place for other in end[3:] for place in lists[other][0]
                 if place not in [given for given, _ in code[2][other][0]] and place[0] != "r"]
    return sorted({place for place in found if kinds[place] != "number"}, key=order)


class Roots(unittest.TestCase):
    def check(self, code, scope):
        told = table(code, scope)
        spots = [(number, at) for number in sorted(code[2]) for at in range(len(code[2][number][1]) + 1)]
        self.assertEqual(list(told), spots)
        for spot in spots:
            _, rows, end = code[2][spot[0]]
            waits = rows[spot[1]][1] == "call" if spot[1] < len(rows) else end[0] == "try"
            self.assertEqual(told[spot][0], told_roots(code, scope, spot, False))
            if waits:
                self.assertEqual(told[spot][2], told_roots(code, scope, spot, True))
            else:
                self.assertEqual(told[spot][2:], (None, None))
            self.assertEqual([kind.__class__ for kind in told[spot][:2]], [list, tuple])
        return told

    def test_all_sorts(self):
        for code in (SORTS, PLACED):
            told = self.check(code, SCOPE)
            for spot in told:
                self.assertEqual(roots_at(code, SCOPE, spot, False), told[spot][0])
                self.assertEqual(told_at(code, SCOPE, spot, False), told[spot][1])
                if told[spot][2] is None:
                    self.assertRaises(BadWaiting, roots_at, code, SCOPE, spot, True)
                    self.assertRaises(BadWaiting, told_at, code, SCOPE, spot, True)
                else:
                    self.assertEqual(roots_at(code, SCOPE, spot, True), told[spot][2])
                    self.assertEqual(told_at(code, SCOPE, spot, True), told[spot][3])
        self.assertEqual(roots_at(SORTS, SCOPE, (0, 8), False), ["v8"])
        self.assertEqual(roots_at(SORTS, SCOPE, (0, 9), False), ["v8", "v9"])
        self.assertEqual(roots_at(SORTS, SCOPE, (0, 18), True), ["v9", "v10"])
        self.assertEqual(roots_at(SORTS, SCOPE, (4, 1), True), [])

    def test_programs(self):
        rng = random.Random(4)
        for program in sound_programs(rng, 2):
            kinds, codes = kinds_and_codes(program)
            scope = scope_of_codes(kinds, list(codes.values()))
            for level in (codes, lean(scope, codes)[0], {name: placed_code(codes[name], 6)[0] for name in codes}):
                for name in level:
                    self.check(level[name], scope)


class Told(unittest.TestCase):
    def told(self, rows, at, variables, end=("return", "v0"), waiting=False):
        """What is told at a spot of variables that a mark tells behind the rows ahead of None."""
        marked = [context("still", ("f", 1, variables)) if row is None else row for row in rows]
        code = ("f", "number", {0: ((("v0", "number"), ("v1", "number")), (context("mark", ("f", 0, {})), *marked), end)})
        frames = told_at(code, F, (0, at), waiting)
        self.assertEqual([frame[:2] for frame in frames], [("f", 1)])
        return {name: formula for name, _, formula in frames[0][2]}

    def test_numbers(self):
        rows = [("v5", "const", 4), ("v2", "plus", "v0", "v5"), ("v3", "minus", "v5", "v0"), None, ("v6", "plus", "v2", "v5")]
        self.assertEqual(self.told(rows, 4, {"a": "v2", "b": "v3", "c": "v5", "d": ("number", ("of", "v3", -1, 1)), "e": ("number", ("lost",)),
                                             "g": ("number", ("of", "v5", -1, 0)), "h": "v1"}), {
            "a": ("of", "v0", 1, 4), "b": ("of", "v0", -1, 4), "c": ("is", 4), "d": ("of", "v0", 1, -3), "e": ("lost",), "g": ("is", -4),
            "h": ("of", "v1", 1, 0),
        })
        # The first place in place order, whatever sign it has.
        rows = [("v2", "times", "v0", "v1"), ("v10", "const", -1), ("v9", "times", "v2", "v10"), None]
        self.assertEqual(self.told(rows, 4, {"a": "v9"}), {"a": ("of", "v2", -1, 0)})
        rows = [("v10", "times", "v0", "v1"), ("v12", "const", -1), ("v9", "times", "v10", "v12"), None]
        self.assertEqual(self.told(rows, 5, {"a": "v10", "b": "v9"}), {"a": ("of", "v9", -1, 0), "b": ("of", "v9", 1, 0)})

    def test_what_acting_rows_give_is_new(self):
        rows = [("v2", "over", "v0", "v1"), ("v3", "over", "v0", "v1"), None, ("v4", "call", "g", ("v3",))]
        self.assertEqual(self.told(rows, 3, {"a": "v3", "b": "v2"}), {"a": ("of", "v3", 1, 0), "b": ("of", "v2", 1, 0)})
        self.assertEqual(self.told(rows, 4, {"a": "v3", "b": "v2"}, waiting=True), {"a": ("of", "v3", 1, 0), "b": ("of", "v2", 1, 0)})
        self.assertEqual(self.told(rows, 5, {"a": "v3", "b": "v2"}), {"a": ("of", "v3", 1, 0), "b": ("of", "v2", 1, 0)})

    def test_given_again_by_another_row(self):
        code = ("f", "number", {0: ((("r0", "number"), ("r1", "number")), (
            context("mark", ("f", 0, {"a": "r0", "b": "r1"})), ("r2", "const", 3), ("r1", "plus", "r0", "r2"), ("s4", "copy", "r1"), ("r0", "const", 7),
            ("r1", "minus", "r1", "r2"), ("r0", "call", "g", ("r0",)),
        ), ("return", "r0"))})

        def told(at, waiting=False):
            return [formula for _, _, formula in told_at(code, F, (0, at), waiting)[0][2]]

        self.assertEqual(told(0), [("of", "r0", 1, 0), ("of", "r1", 1, 0)])
        self.assertEqual(told(2), [("of", "r0", 1, 0), ("of", "r1", 1, 0)])
        self.assertEqual(told(3), [("of", "r0", 1, 0), ("lost",)])
        self.assertEqual(told(4), [("of", "r0", 1, 0), ("lost",)])
        self.assertEqual(told(5), [("of", "r1", 1, -3), ("lost",)])
        self.assertEqual(told(6), [("of", "r1", 1, 0), ("lost",)])
        self.assertEqual(told(6, True), [("of", "s4", 1, -3), ("lost",)])
        self.assertEqual(told(7), [("of", "s4", 1, -3), ("lost",)])

    def test_tries(self):
        code = numbers_code("f", {
            0: (["v0", "v1"], [], ("try", "g", ("v0",), 1, 2)), 1: (["v2"], [], ("return", "v0")), 2: (["v3"], [], ("return", "v3")),
        })
        frames = (("f", 0, (("a", "number", ("of", "v0", 1, 0)),)),)
        code[2][0] = (code[2][0][0], ((None, "mark", frames),), code[2][0][2])
        self.assertEqual(told_at(code, F, (0, 1), True), frames)
        placed = {
            0: ((("r0", "number"), ("r1", "number")), ((None, "mark", (("f", 0, (("a", "number", ("of", "r0", 1, 0)), ("b", "number", ("of", "r1", 1, 0)))),)),
                                                      ("s0", "copy", "r1")), ("try", "g", ("r0",), 1, 2)),
            1: ((("r0", "number"),), (context("mark", ("f", 1, {})),), ("return", "r0")), 2: ((("r0", "number"),), (context("mark", ("f", 1, {})),), ("return", "r0")),
        }
        self.assertEqual(told_at(("f", "number", placed), F, (0, 2), True)[0][2], (("a", "number", ("lost",)), ("b", "number", ("of", "s0", 1, 0))))
        self.assertEqual(told_at(("f", "number", placed), F, (0, 2), False)[0][2], (("a", "number", ("of", "r0", 1, 0)), ("b", "number", ("of", "r1", 1, 0))))

    def test_boxes(self):
        rows = [("v2", "make", "v", ()), ("v3", "make", "w", ("v0", "v2")), ("v4", "copy", "v3"), ("v5", "part", "w", 1, "v3"), ("v6", "new", "r", "v0", "v3"),
                context("still", ("f", 1, {"a": ("c", "v3"), "b": ("c", "v4"), "d": ("r", "v6"), "e": ("c", ("make", "w", (("is", 3), ("of", "v3", 1, 0)))),
                                           "g": ("c", "v5"), "h": ("c", ("make", "w", (("of", "v0", 1, 0), ("lost",))))})),
                ("v7", "tag", "v4"), ("v8", "tag", "v5"), ("v9", "plus", "v7", "v8")]

        def told(at, more=(), kind="r"):
            code = ("f", "number", {0: ((("v0", "number"), ("v1", "number")), (context("mark", ("f", 0, {})), *rows, *more), ("return", "v0"))})
            return {name: formula for name, _, formula in told_at(code, SCOPE, (0, at), False)[0][2]}

        nothing, lost = ("make", "v", ()), ("lost",)
        inner = ("make", "w", (("of", "v0", 1, 0), nothing))
        # v4 is wanted, so it is the first root with this term; v5 as well; v6 is wanted by nobody.
        self.assertEqual(told(7), {"a": ("of", "v4", 1, 0), "b": ("of", "v4", 1, 0), "d": lost, "e": ("make", "w", (("is", 3), ("of", "v4", 1, 0))),
                                   "g": ("of", "v5", 1, 0), "h": lost})
        # Where none of them is wanted any more they are told by their parts.
        self.assertEqual(told(9), {"a": inner, "b": inner, "d": lost, "e": ("make", "w", (("is", 3), inner)), "g": nothing, "h": lost})
        more = [("v10", "long", "r", "v6")]
        self.assertEqual(told(9, more)["d"], ("of", "v6", 1, 0))
        self.assertEqual(told(11, more)["d"], lost)

    def test_nothing(self):
        rows = [("v2", "make", "v", ()), ("v3", "part", "w", 1, "v2"), context("still", ("f", 1, {"a": ("c", "v3"), "b": ("c", ("make", "w", (("is", 1), ("of", "v3", 1, 0))))}))]
        for more, wanted in (([], ("lost",)), ([("v4", "tag", "v3")], ("of", "v3", 1, 0))):
            code = ("f", "number", {0: ((("v0", "number"), ("v1", "number")), (context("mark", ("f", 0, {})), *rows, *more), ("return", "v0"))})
            told = {name: formula for name, _, formula in told_at(code, SCOPE, (0, 4), False)[0][2]}
            self.assertEqual(told["a"], wanted)
            self.assertEqual(told["b"], ("lost",) if more == [] else ("make", "w", (("is", 1), ("of", "v3", 1, 0))))

    def test_at_context_rows(self):
        still = [context("still", ("f", at, {"a": "v0"})) for at in range(4)]
        code = numbers_code("f", {0: (["v0", "v1"], [still[1], ("v2", "const", 1), still[2]], ("return", "v0"))})
        self.assertEqual([told_at(code, F, (0, at), False)[0][1] for at in range(5)], [0, 1, 1, 2, 2])


class WhatIsTold(unittest.TestCase):
    def test_words_in_runs(self):
        """Whatever state a run has, a formula tells what the context row's told when it was passed."""
        rng = random.Random(9)
        asked = 0
        for program in sound_programs(rng, 6):
            kinds, codes = kinds_and_codes(program)
            scope = scope_of_codes(kinds, list(codes.values()))
            for level in (codes, lean(scope, codes)[0], {name: placed_code(codes[name], 6)[0] for name in codes}):
                runner = Codes(kinds, list(level.values()))
                tables = {name: table(level[name], scope) for name in level}
                for name, arguments in starts_of(program, rng)[:3]:
                    asked += self.check_run(runner, level, tables, runner.begin(name, arguments))
        self.assertGreater(asked, 2000)

    def check_run(self, runner, level, tables, state):
        passed, asked = [], 0
        for _ in range(150):
            frames, heap, _, end, _ = state
            if end is not None:
                break
            del passed[len(frames):]
            passed.extend([None] * (len(frames) - len(passed)))
            function, number, at, places = frames[-1]
            rows = level[function][2][number][1]
            if at < len(rows) and rows[at][1] in ("mark", "back", "still"):
                passed[-1] = [[look(formula, places, heap) for _, _, formula in frame[2]] for frame in rows[at][2]]
            for depth, (function, number, at, places) in enumerate(frames):
                told = tables[function][(number, at)][3 if depth < len(frames) - 1 else 1]
                for frame, looks in zip(told, passed[depth]):
                    for (_, kind, formula), wanted in zip(frame[2], looks):
                        if formula != ("lost",) and kind == "number":
                            self.assertEqual(look(formula, places, heap), wanted)
                            asked += 1
            state = runner.step(state)
        return asked


def look(formula, places, heap):
    if formula[0] == "is":
        return formula[1]
    if formula[0] == "of":
        return formula[2] * places[formula[1]] + formula[3]
    return None


class WrongInputs(unittest.TestCase):
    def test_errors(self):
        for thing in odd_values():
            if not isinstance(thing, Scope):
                self.assertRaises(BadScope, roots_at, 0, thing, 0, 0)
                self.assertRaises(BadScope, told_at, SORTS, thing, 0, 0)
                self.assertRaises(BadScope, table, 0, thing)
            self.assertRaises(BadCode, roots_at, thing, SCOPE, 0, 0)
            self.assertRaises(BadCode, told_at, thing, SCOPE, 0, 0)
            self.assertRaises(BadCode, table, thing, SCOPE)
        self.assertRaises(BadCode, table, SORTS, F)
        for thing in odd_values() + [(0, 99), (1, 0), (True, 0), (0, False), [0, 0], (0, -1), (0, 0, 0)]:
            self.assertRaises(BadSpot, roots_at, SORTS, SCOPE, thing, 0)
            self.assertRaises(BadSpot, told_at, PLACED, SCOPE, thing, 0)
        for thing in odd_values():
            if thing is not True and thing is not False:
                self.assertRaises(BadWaiting, roots_at, SORTS, SCOPE, (0, 18), thing)
                self.assertRaises(BadWaiting, told_at, SORTS, SCOPE, (0, 18), thing)
        self.assertRaises(BadWaiting, roots_at, SORTS, SCOPE, (0, 17), True)
        self.assertRaises(BadWaiting, told_at, SORTS, SCOPE, (0, 21), True)


if __name__ == "__main__":
    unittest.main()
