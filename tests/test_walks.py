"""Point 58, with points 41, 54 and 55: walks of named code, and what they have in common with the plain run."""

import random
import unittest

from code_tools import context, kinds_and_codes, numbers_code, sound_programs, starts_of
from odd_values import odd_values
from random_codes import random_code
from stopanywhere.errors import BadArguments, BadMost, BadWalk, NoFunction
from stopanywhere.plain import Program, told_run
from stopanywhere.runner import Codes
from stopanywhere.texts import read_unit
from stopanywhere.walks import walk
from stopanywhere.ways import tidy, without_stand_ins
from test_runner import CALLS, PlacedCode


class Case(unittest.TestCase):
    def same(self, runner, program, function, arguments, steps, events):
        """The walk and the plain run are one; where one of them is cut, as far as both go. The walk's end."""
        outputs, end, moments = walk(runner, function, arguments, steps)
        told = told_run(program, function, arguments, events)
        if ("cut",) in (end, told[1]):
            many, shown = min(len(moments), len(told[2])), min(len(outputs), len(told[0]))
            self.assertEqual((outputs[:shown], moments[:many]), (told[0][:shown], told[2][:many]))
        else:
            self.assertEqual((outputs, end, moments), told)
        return end

    def walked(self, text, *arguments, steps=2000):
        """The walk of a unit's function f, which is like the plain run."""
        program = Program([read_unit(text)])
        kinds, codes = kinds_and_codes(program)
        runner = Codes(kinds, list(codes.values()))
        self.same(runner, program, "f", list(arguments), steps, 1500)
        return walk(runner, "f", list(arguments), steps)


class PlainRun(Case):
    def test_random_programs(self):
        rng = random.Random(61)
        ends = {}
        for program in sound_programs(rng, 70):
            kinds, codes = kinds_and_codes(program)
            rng.shuffle(kinds)
            listed = list(codes.values())
            rng.shuffle(listed)
            runner = Codes(kinds, listed)
            for function, arguments in starts_of(program, rng):
                for steps, events in ((0, 40), (rng.randint(1, 30), 40), (500, rng.randint(0, 9)), (700, 300)):
                    end = self.same(runner, program, function, arguments, steps, events)
                    ends[end[0]] = ends.get(end[0], 0) + 1
        self.assertEqual(len(ends), 3)
        self.assertGreater(min(ends.values()), 20)

    def test_the_example(self):
        text = "unit u function f(n) { let a = n + 1 while 0 < a { show a set a = a - 1 } return a }"
        outputs, end, moments = self.walked(text, 0)
        self.assertEqual((outputs, end), ([1], ("returned", 0, ())))
        self.assertEqual(moments[5], ((("f", 1, (("a", 0), ("n", 0))),), (), 1))

    def test_failures_within_calls_and_tries(self):
        text = (
            "unit u row r of number function g(n) { if n == 0 { fail 7 } show n return 10 over (n - 3) } "
            "function h(n) { let x = new r(n, n) put r(x, 1) = g(n) return at r(x, 2) } "
            "function i(n) { try a = h(n) else b: g(b + 1) return a } function f(n) { try a = i(n) else b: b let c = i(n) return a + c }"
        )
        ends = [self.walked(text, number)[1][0] for number in (-1, 0, 1, 2, 3, 4, 5, 50, 51)]
        self.assertEqual(set(ends), {"returned", "failed"})

    def test_rows_that_lead_to_themselves(self):
        text = (
            "unit u choice c = v | o(d) | p(c, c) row d of c row e of d function g(a) { put d(a, 0) = make o(a) "
            "put d(a, 1) = make p(at d(a, 0), make v) return a } function f(n) { let x = new d(n, make v) "
            "try y = g(x) else z: new d(z + 3, make o(x)) let w = new e(2, y) put e(w, 1) = x return w }"
        )
        self.assertEqual(self.walked(text, 2)[1], ("returned", ("row", 0), (
            ("e", (("row", 1), ("row", 1))), ("d", (("o", (("row", 1),)), ("p", (("o", (("row", 1),)), ("v", ()))))),
        )))
        self.walked(text, 0)
        self.walked(text, 1)

    def test_calls_within_a_statement(self):
        text = "unit u function g(n) { if n < 1 { return 0 } let m = g(n - 1) + g(n - 2) return m + 1 } function f(n) { return g(n) }"
        outputs, end, moments = self.walked(text, 5)
        self.assertEqual((outputs, end), ([], ("returned", 12, ())))
        self.assertEqual(max(len(moment[0]) for moment in moments), 7)


class Moments(unittest.TestCase):
    """Moments by hand: of frames that marks and backs tell."""

    def test_the_first_moment(self):
        codes = Codes([], CALLS)
        told = ((("f", 0, (("n", 5),)),), (), 0)
        self.assertEqual(walk(codes, "f", [5], 0), ([], ("cut",), [told]))
        self.assertEqual(walk(codes=codes, function="f", arguments=[5], most=1), ([], ("cut",), [told]))
        # h begins with a still, so it tells nothing yet.
        self.assertEqual(walk(codes, "h", [True], 0), ([], ("cut",), []))
        self.assertEqual(walk(codes, "h", [True], 4), ([], ("cut",), [((("h", 4, ()),), (), 0)]))

    def test_two_events_of_one_step(self):
        codes = Codes([], CALLS)
        _, _, moments = walk(codes, "f", [1], 500)
        first = ("f", 0, (("n", 1),))
        self.assertEqual(moments[:2], [((first,), (), 0), ((first, ("g", 0, ())), (), 0)])
        # The return into block 4, then its mark.
        at = moments.index(((("f", 1, (("n", 1), ("x", 2))),), (), 0))
        self.assertEqual(moments[at - 1], ((first,), (), 0))

    def test_a_failure_that_is_caught(self):
        codes = Codes([], CALLS)
        outputs, end, moments = walk(codes, "f", [6], 500)
        first = ("f", 0, (("n", 6),))
        # Behind h's mark the try has caught; then a number is shown, and at once a back tells two frames.
        self.assertEqual(moments[2:], [
            ((first, ("g", 0, ()), ("h", 8, ()), ("i", 2, ())), (), 0), ((first,), (), 0), ((first,), (), 1),
            ((("f", 2, ()), ("e", 7, ())), (), 1),
        ])
        self.assertEqual((outputs, end), ([6], ("failed", 16, (("f", 2), ("e", 7)))))

    KINDS = [
        ("choice", "c", (("v", ()), ("w", ("number", "c")))), ("row", "r", "number"), ("row", "s", "r"),
        ("choice", "d", (("full", ("r", "s")), ("bare", ()))),
    ]

    def walk_block(self, rows, end=("return", "v0"), result="number", arguments=(3,)):
        parameters = tuple((f"v{at}", "number") for at in range(len(arguments)))
        return walk(Codes(self.KINDS, [("f", result, {0: (parameters, tuple(rows), end)})]), "f", list(arguments), 99)

    def test_formulas(self):
        _, _, moments = self.walk_block([
            context("still", ("f", 0, {})), ("v1", "make", "v", ()), ("v2", "new", "r", "v0", "v0"),
            context("mark", ("f", 1, {
                "a": ("number", ("is", -7)), "b": ("number", ("of", "v0", -1, 10)), "c": ("number", ("of", "v0", 1, -4)),
                "d": ("c", "v1"), "e": ("c", ("make", "w", (("of", "v0", -1, 0), ("make", "w", (("is", 2), ("of", "v1", 1, 0)))))),
                "g": ("r", "v2"), "h": ("number", ("lost",)),
                "i": ("c", ("make", "w", (("is", 1), ("lost",)))), "j": ("z", ("lost",)),
                "k": ("c", ("make", "w", (("is", 1), ("make", "w", (("is", 1), ("lost",)))))),
            })),
        ])
        self.assertEqual(moments, [((("f", 1, (
            ("a", -7), ("b", 7), ("c", -1), ("d", ("v", ())), ("e", ("w", (-3, ("w", (2, ("v", ())))))), ("g", ("row", 0)),
        )),), (("r", (3, 3, 3)),), 0)])

    def test_rows_are_told_as_they_are_now(self):
        _, end, moments = self.walk_block([
            context("mark", ("f", 0, {})), ("v1", "new", "r", "v0", "v0"), ("v2", "new", "s", "v0", "v1"), ("v3", "const", 1),
            ("v4", "make", "full", ("v1", "v2")), context("mark", ("f", 1, {"x": ("d", "v4"), "y": ("s", "v2")})),
            (None, "put", "r", "v1", "v3", "v3"), ("v5", "new", "r", "v3", "v3"), (None, "put", "s", "v2", "v3", "v5"),
        ], ("return", "v2"), "s", (2,))
        told = (("x", ("full", (("row", 0), ("row", 1)))), ("y", ("row", 1)))
        self.assertEqual(moments[1:], [
            ((("f", 1, told),), (("r", (2, 2)), ("s", (("row", 0), ("row", 0)))), 0),
            ((("f", 1, told),), (("r", (2, 1)), ("s", (("row", 0), ("row", 0)))), 0),
            ((("f", 1, told),), (("r", (2, 1)), ("s", (("row", 0), ("row", 2))), ("r", (1,))), 0),
        ])
        self.assertEqual(end, ("returned", ("row", 0), (("s", (("row", 1), ("row", 2))), ("r", (2, 1)), ("r", (1,)))))

    def test_nothing(self):
        _, end, moments = self.walk_block([
            context("mark", ("f", 0, {})), ("v1", "make", "bare", ()), ("v2", "part", "full", 0, "v1"), ("v3", "part", "full", 1, "v1"),
            ("v4", "make", "full", ("v2", "v3")), context("back", ("f", 1, {"x": ("d", "v4"), "y": ("r", "v2")})),
        ], ("return", "v4"), "d")
        self.assertEqual(moments[1], ((("f", 1, (("x", ("full", (None, None))), ("y", None))),), (), 0))
        self.assertEqual(end, ("returned", ("full", (None, None)), ()))

    def test_stills_tell_nothing(self):
        _, _, moments = self.walk_block([
            context("mark", ("f", 0, {"x": "v0"})), context("still", ("f", 4, {"y": "v0"})), (None, "show", "v0"),
        ])
        self.assertEqual(moments, [((("f", 0, (("x", 3),)),), (), 0), ((("f", 0, (("x", 3),)),), (), 1)])

    def test_ends(self):
        self.assertEqual(self.walk_block([context("mark", ("f", 0, {}))], ("fail", "v0"))[:2], ([], ("failed", 3, (("f", 0),))))
        ring = [("f", "number", {0: ((), (context("mark", ("f", 0, {})),), ("jump", 5, ())),
                                 5: ((), (context("still", ("f", 0, {})),), ("jump", 5, ()))})]
        self.assertEqual(walk(Codes([], ring), "f", [], 20000)[1], ("cut",))
        # A run that needs just so many steps is not cut.
        steps = [len(walk(Codes([], CALLS), "f", [1], most)[1]) for most in range(60)]
        least = steps.index(3)
        self.assertEqual(set(steps[:least]), {1})
        self.assertEqual(set(steps[least:]), {3})


class OtherNumbers(Case):
    """Points 54 and 55: the walk hangs on no numbers, on no parameters that others stand for, and on no order."""

    def test_programs(self):
        rng = random.Random(62)
        for program in sound_programs(rng, 15):
            kinds, codes = kinds_and_codes(program)
            first = Codes(kinds, list(codes.values()))
            others = [tidy(self.renumbered(rng, code), first.scope) for code in codes.values()]
            self.assertEqual(others, [tidy(code, first.scope) for code in codes.values()])
            found = [self.renumbered(rng, code) for code in codes.values()]
            rng.shuffle(found)
            second = Codes(kinds[::-1], found)
            for function, arguments in starts_of(program, rng):
                self.assertEqual(walk(first, function, arguments, 250), walk(second, function, arguments, 250))

    def renumbered(self, rng, code):
        name, result, blocks = code
        given = [place for parameters, rows, _ in blocks.values() for place in [p for p, _ in parameters] + [r[0] for r in rows]]
        places = [place for place in given if place is not None]
        table = dict(zip(places, [f"v{number}" for number in rng.sample(range(10000), len(places))]))
        numbers = dict(zip(blocks, rng.sample(range(1, 10000), len(blocks))))
        numbers[0] = 0

        def turn(thing):
            if isinstance(thing, tuple):
                return tuple(turn(part) for part in thing)
            return table.get(thing, thing) if isinstance(thing, str) else thing

        keys = list(blocks)
        rng.shuffle(keys)
        found = {}
        for number in keys:
            parameters, rows, end = turn(blocks[number])
            if end[0] == "jump":
                end = ("jump", numbers[end[1]], end[2])
            if end[0] in ("branch", "try"):
                end = end[:-2] + (numbers[end[-2]], numbers[end[-1]])
            found[numbers[number]] = (parameters, rows, end)
        return name, result, found

    def test_codes_with_joins(self):
        rng = random.Random(63)
        less = 0
        for _ in range(60):
            code, taken = random_code(rng)
            runner = Codes([], [code])
            tidied = Codes([], [tidy(code, runner.scope)])
            without = Codes([], [without_stand_ins(code, runner.scope)])
            less += without != runner
            for arguments in ([0, 1, 2], [3, True, -1]):
                told = walk(runner, "f", arguments[:taken], 200)
                self.assertEqual(walk(tidied, "f", arguments[:taken], 200), told)
                self.assertEqual(walk(without, "f", arguments[:taken], 200), told)
        self.assertGreater(less, 10)


class WrongValues(unittest.TestCase):
    def test_codes(self):
        for thing in odd_values() + [CALLS, Codes([], PlacedCode.CODES)]:
            self.assertRaises(BadWalk, walk, thing, None, None, None)
        ring = numbers_code("i", {0: ([], [], ("jump", 1, ())), 1: ([], [], ("jump", 1, ()))})
        self.assertEqual(walk(Codes([], [ring]), "i", [], 0)[1], ("cut",))

    def test_functions_arguments_and_most(self):
        codes = Codes([("row", "r", "number")], [*CALLS, (
            "i", "number", {0: ((("v0", "r"),), (context("mark", ("i", 0, {})), ("v1", "long", "r", "v0")), ("return", "v1"))}
        )])
        for thing in odd_values() + ["i", "z"]:
            with self.assertRaises(NoFunction) as caught:
                walk(codes, thing, None, None)
            self.assertEqual(repr(caught.exception.name), repr(thing))
        for thing in odd_values() + [[1, 2], [None], ["1"], {0: 1}]:
            if not (isinstance(thing, (list, tuple)) and len(thing) == 1 and isinstance(thing[0], int)):
                self.assertRaises(BadArguments, walk, codes, "f", thing, None)
        for thing in odd_values() + [-1, 20001, "1"]:
            if not (thing.__class__ is int and 0 <= thing <= 20000):
                self.assertRaises(BadMost, walk, codes, "f", [1], thing)
        self.assertEqual(walk(codes, "f", (True,), 20000)[1], ("returned", 3, ()))

    def test_what_is_returned_is_new(self):
        codes = Codes([], CALLS)
        one, other = walk(codes, "f", [6], 99), walk(codes, "f", [6], 99)
        one[0].clear()
        one[2].clear()
        self.assertEqual(len(other[2]), 6)
        self.assertEqual(walk(codes, "f", [6], 99), other)


if __name__ == "__main__":
    unittest.main()
