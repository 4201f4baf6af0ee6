"""Points 50, 51 and 57: codes that are run together, their states, and what each row and end does."""

import random
import unittest

from code_tools import context, kinds_and_codes, numbers_code, sound_programs, starts_of
from naive_placing import placed_of
from odd_values import as_bool, as_list, changed, odd_values
from stopanywhere.errors import BadArguments, BadCodes, BadKinds, BadMost, BadState, NoFunction
from stopanywhere.forms import Scope, scope_of_codes
from stopanywhere.lowering import scope_of
from stopanywhere.runner import Codes
from stopanywhere.ways import kinds_at
from test_forms import NAMED, PLACED

KINDS = [
    ("choice", "c", (("v", ()), ("w", ("number", "truth", "c")))), ("row", "r", "number"), ("row", "s", "c"),
    ("row", "t", "truth"), ("choice", "one", (("only", ("s",)),)),
]
BIG = 123456789012345678901234567890


def still(name="f"):
    return context("still", (name, 0, {}))


def straight(rows, end, parameters=(), result="number", name="f"):
    """Code of one block, without events of its own."""
    return name, result, {0: (tuple(parameters), (still(name), *rows), end)}


class Runs(unittest.TestCase):
    def state_behind(self, rows, *arguments):
        """The state behind rows of numbers, of a run that then returns v0."""
        parameters = [(f"v{at}", "number") for at in range(len(arguments))]
        codes = Codes(KINDS, [straight([*rows, ("v999", "const", 0)], ("return", "v999"), parameters)])
        return codes.run(codes.begin("f", list(arguments)), len(rows) + 1)

    def gives(self, row, *arguments, ahead=()):
        """What a row that gives v9 puts there, None if it fails."""
        state = self.state_behind([*ahead, row], *arguments)
        return state[0][0][3]["v9"] if state[0] else state[3][:2]


class PureRows(Runs):
    def test_numbers(self):
        for word, worth in (
            ("plus", lambda a, b: a + b), ("minus", lambda a, b: a - b), ("times", lambda a, b: a * b),
            ("less", lambda a, b: int(a < b)), ("atmost", lambda a, b: int(a <= b)), ("same", lambda a, b: int(a == b)),
        ):
            for a in (0, 1, -1, 7, -7, 999999999999, -999999999999, BIG, -BIG, BIG + 1):
                for b in (0, 1, -1, 7, 999999999999, -BIG, BIG):
                    found = self.gives(("v9", word, "v0", "v1"), a, b)
                    self.assertEqual(found, worth(a, b))
                    self.assertIs(found.__class__, int)
                self.assertIs(self.gives(("v9", word, "v0", "v0"), a).__class__, int)
        for a in (0, 1, -1, 2, BIG):
            self.assertEqual(repr(self.gives(("v9", "not", "v0"), a)), str(int(a == 0)))
            self.assertEqual(self.gives(("v9", "copy", "v0"), a), a)
            self.assertEqual(self.gives(("v9", "const", a)), a)

    def test_numbers_of_many_figures(self):
        rows = [(f"v{at + 1}", "times", f"v{at}", f"v{at}") for at in range(7)]
        self.assertEqual(self.state_behind(rows, 10 ** 11 + 7)[0][0][3]["v7"], (10 ** 11 + 7) ** 128)

    BOXES = [
        ("v10", "const", 1), ("v11", "make", "v", ()), ("v12", "make", "w", ("v10", "v10", "v11")),
        ("v13", "part", "w", 2, "v11"), ("v14", "new", "r", "v10", "v10"), ("v15", "new", "s", "v10", "v11"),
        ("v16", "make", "only", ("v15",)), ("v17", "part", "w", 2, "v13"),
    ]

    def test_boxes(self):
        held = self.state_behind(self.BOXES)[0][0][3]
        self.assertEqual([held[f"v{at}"] for at in range(11, 18)], [1, 2, 0, 3, 4, 5, 0])
        self.assertEqual(self.state_behind(self.BOXES)[1], {
            1: ("v", ()), 2: ("w", (1, 1, 1)), 3: ("r", (1,)), 4: ("s", (1,)), 5: ("only", (4,)),
        })

    def test_parts(self):
        for row, worth in (
            (("part", "w", 0, "v12"), 1), (("part", "w", 2, "v12"), 1), (("part", "only", 0, "v16"), 4),
            # Of another variant, and of nothing.
            (("part", "w", 0, "v11"), 0), (("part", "w", 2, "v11"), 0), (("part", "w", 0, "v13"), 0), (("part", "w", 2, "v13"), 0),
            (("tag", "v11"), 0), (("tag", "v12"), 1), (("tag", "v16"), 0), (("tag", "v13"), 0),
            (("long", "r", "v14"), 1), (("long", "s", "v15"), 1),
        ):
            self.assertEqual(self.gives(("v9", *row), ahead=self.BOXES), worth, row)

    def test_long_of_nothing_and_of_many(self):
        ahead = [*self.BOXES, ("v18", "make", "v", ()), ("v19", "part", "only", 0, "v16"), ("v20", "const", 50)]
        self.assertEqual(self.gives(("v9", "long", "s", "v19"), ahead=ahead), 1)
        self.assertEqual(self.gives(("v9", "long", "r", "v21"), ahead=[*ahead, ("v21", "new", "r", "v20", "v10")]), 50)
        self.assertEqual(self.with_nothing([("v9", "long", "s", "v5")])[0][0][3]["v9"], 0)

    def with_nothing(self, rows):
        """The state behind rows with nothing in v5 (of the kind s), v6 (of c), 1 in v1, 0 in v0."""
        kinds = [*KINDS, ("choice", "two", (("full", ("s",)), ("bare", ())))]
        ahead = [("v0", "const", 0), ("v1", "const", 1), ("v4", "make", "bare", ()), ("v5", "part", "full", 0, "v4"),
                 ("v3", "make", "v", ()), ("v6", "part", "w", 2, "v3")]
        codes = Codes(kinds, [straight([*ahead, *rows, ("v99", "const", 0)], ("return", "v99"))])
        return codes.run(codes.begin("f", []), len(ahead) + len(rows) + 1)

    def test_nothing(self):
        self.assertEqual(self.with_nothing([("v9", "tag", "v6")])[0][0][3]["v9"], 0)
        for row in (("v9", "at", "s", "v5", "v0"), (None, "put", "s", "v5", "v0", "v6"), ("v9", "at", "s", "v5", "v1")):
            self.assertEqual(self.with_nothing([row])[3], ("failed", -2, (("f", 0),)))
        found = self.with_nothing([("v9", "make", "w", ("v1", "v1", "v6")), ("v8", "new", "s", "v1", "v6")])
        self.assertEqual(found[1][3], ("w", (1, 1, 0)))
        self.assertEqual(found[1][4], ("s", (0,)))


class ActingRows(Runs):
    def test_over_and_rest(self):
        for a in (0, 1, 7, -7, BIG, -BIG):
            for b in (1, 2, -2, 3, -BIG, 10 ** 12):
                self.assertEqual(self.gives(("v9", "over", "v0", "v1"), a, b), a // b)
                self.assertEqual(self.gives(("v9", "rest", "v0", "v1"), a, b), a % b)
            for word in ("over", "rest"):
                self.assertEqual(self.gives(("v9", word, "v0", "v1"), a, 0), ("failed", -1))

    def test_new(self):
        for many in (0, 1, 49, 50):
            state = self.state_behind([("v9", "new", "r", "v0", "v1")], many, 8)
            self.assertEqual((state[0][0][3]["v9"], state[1]), (1, {1: ("r", (8,) * many)}))
        for many in (-1, 51, -BIG, BIG):
            self.assertEqual(self.gives(("v9", "new", "r", "v0", "v1"), many, 8), ("failed", -2))

    def test_at_and_put(self):
        ahead = [("v3", "const", 77), ("v8", "new", "r", "v0", "v1")]
        for many in (0, 1, 3):
            for index in (-many - 1, -many, -1, 0, 1, many - 1, many, many + 1):
                rows = [*ahead, (None, "put", "r", "v8", "v2", "v3"), ("v9", "at", "r", "v8", "v2")]
                state = self.state_behind(rows, many, 5, index)
                if 0 <= index < many:
                    items = [5] * many
                    items[index] = 77
                    self.assertEqual((state[1], state[0][0][3]["v9"]), ({1: ("r", tuple(items))}, 77))
                else:
                    self.assertEqual((state[1], state[3]), ({1: ("r", (5,) * many)}, ("failed", -2, (("f", 0),))))
                    self.assertEqual(self.gives(("v9", "at", "r", "v8", "v2"), many, 5, index, ahead=ahead), ("failed", -2))

    def test_show(self):
        state = self.state_behind([(None, "show", "v0"), (None, "show", "v1"), (None, "show", "v0")], 4, -BIG)
        self.assertEqual((state[2], state[4]), ((4, -BIG, 4), 3))

    def test_boxes_come_to_the_least_free_address(self):
        codes = Codes(KINDS, [straight([("v0", "make", "v", ()), ("v1", "const", 2), ("v2", "new", "r", "v1", "v1")], ("return", "v1"))])
        state = codes.begin("f", [])
        heap = {1: ("v", ()), 3: ("r", (1, 2)), 4: ("v", ()), 900: ("v", ())}
        state = (state[0], heap, *state[2:])
        found = codes.run(state, 4)
        self.assertEqual(found[1], {**heap, 2: ("v", ()), 5: ("r", (2, 2))})
        self.assertEqual(list(found[1]), [1, 2, 3, 4, 5, 900])
        self.assertEqual((found[0][0][3]["v0"], found[0][0][3]["v2"]), (2, 5))
        self.assertEqual(heap, {1: ("v", ()), 3: ("r", (1, 2)), 4: ("v", ()), 900: ("v", ())})


# f(n) tries g(n), which calls h(n); h fails with n, divides by 0, or returns; a call of h stands in f, too.
CALLS = [
    ("f", "number", {
        0: ((("v0", "number"),), (context("mark", ("f", 0, {"n": "v0"})), ("v1", "const", 10), ("v2", "plus", "v0", "v1")),
            ("try", "g", ("v0",), 4, 2)),
        4: ((("v3", "number"),), (context("mark", ("f", 1, {"n": "v0", "x": "v3"})), ("v4", "call", "h", ("v3",)),
                                 ("v6", "plus", "v4", "v0")), ("return", "v6")),
        2: ((("v5", "number"),), (context("still", ("f", 0, {})), (None, "show", "v5"), context("back", ("f", 2, {}), ("e", 7, {}))),
            ("fail", "v2")),
    }),
    ("g", "number", {
        0: ((("v0", "number"),), (context("mark", ("g", 0, {})), ("v7", "call", "h", ("v0",)), context("still", ("g", 5, {})),
                                 ("v8", "call", "h", ("v7",))), ("return", "v8")),
    }),
    ("h", "number", {
        0: ((("v0", "number"),), (context("still", ("h", 3, {})), ("v1", "const", 4), ("v2", "less", "v0", "v1")), ("branch", "v2", 1, 9)),
        1: ((), (context("mark", ("h", 4, {})), ("v3", "const", 1), ("v4", "over", "v3", "v0"), ("v5", "plus", "v0", "v4"),
                 context("back", ("h", 6, {}))), ("return", "v5")),
        9: ((), (context("mark", ("h", 8, {}), ("i", 2, {})),), ("fail", "v0")),
    }),
]


class Calls(unittest.TestCase):
    def states(self, codes, function, arguments):
        found = [codes.begin(function, arguments)]
        while found[-1][3] is None:
            found.append(codes.step(found[-1]))
        return found

    def test_all_states_of_a_run(self):
        codes = Codes([], CALLS)
        first = ("f", 0, 3, {"v0": 1, "v1": 10, "v2": 11})
        inner = ("g", 0, 1, {"v0": 1})
        self.assertEqual(self.states(codes, "f", [1])[:14], [
            ((("f", 0, 0, {"v0": 1}),), {}, (), None, 1), ((("f", 0, 1, {"v0": 1}),), {}, (), None, 1),
            ((("f", 0, 2, {"v0": 1, "v1": 10}),), {}, (), None, 1), ((first,), {}, (), None, 1),
            ((first, ("g", 0, 0, {"v0": 1})), {}, (), None, 2), ((first, inner), {}, (), None, 2),
            ((first, inner, ("h", 0, 0, {"v0": 1})), {}, (), None, 2), ((first, inner, ("h", 0, 1, {"v0": 1})), {}, (), None, 2),
            ((first, inner, ("h", 0, 2, {"v0": 1, "v1": 4})), {}, (), None, 2),
            ((first, inner, ("h", 0, 3, {"v0": 1, "v1": 4, "v2": 1})), {}, (), None, 2),
            # In block 1 all these are held still; its mark is one event.
            ((first, inner, ("h", 1, 0, {"v0": 1, "v1": 4, "v2": 1})), {}, (), None, 3),
            ((first, inner, ("h", 1, 1, {"v0": 1, "v1": 4, "v2": 1})), {}, (), None, 3),
            ((first, inner, ("h", 1, 2, {"v0": 1, "v1": 4, "v2": 1, "v3": 1})), {}, (), None, 3),
            ((first, inner, ("h", 1, 3, {"v0": 1, "v1": 4, "v2": 1, "v3": 1, "v4": 1})), {}, (), None, 3),
        ])

    def test_coming_back(self):
        codes = Codes([], CALLS)
        found = self.states(codes, "f", [1])
        first = ("f", 0, 3, {"v0": 1, "v1": 10, "v2": 11})
        self.assertIn(((first, ("g", 0, 2, {"v0": 1, "v7": 2})), {}, (), None, 5), found)
        # g's second call of h fails not, but its number is 2: 2 + 1 over 2.
        self.assertIn(((first, ("g", 0, 4, {"v0": 1, "v7": 2, "v8": 2})), {}, (), None, 8), found)
        # A return into a try's first block is an event, and its mark another one.
        self.assertIn(((("f", 4, 0, {"v0": 1, "v1": 10, "v2": 11, "v3": 2}),), {}, (), None, 10), found)
        self.assertEqual(found[-1], ((), {}, (), ("returned", 3), 13))

    def test_failures(self):
        codes = Codes([], CALLS)
        # A division within two calls, caught by the try of an outer frame: one event, and none at the still.
        found = self.states(codes, "f", [0])
        self.assertIn(((("f", 2, 0, {"v0": 0, "v1": 10, "v2": 10, "v5": -1}),), {}, (), None, 4), found)
        # The back of two frames is one event; the nearest context row tells the trace.
        self.assertEqual(found[-1], ((), {}, (-1,), ("failed", 10, (("f", 2), ("e", 7))), 6))
        found = self.states(codes, "f", [6])
        self.assertIn(((("f", 2, 0, {"v0": 6, "v1": 10, "v2": 16, "v5": 6}),), {}, (), None, 4), found)
        for function, number, end in (
            ("h", 0, ("failed", -1, (("h", 4),))), ("h", 5, ("failed", 5, (("h", 8), ("i", 2)))),
            ("g", 4, ("failed", 4, (("g", 0), ("h", 8), ("i", 2)))), ("g", 3, ("returned", 3)),
            ("f", 4, ("failed", 14, (("f", 2), ("e", 7)))), ("g", -1, ("returned", -3)),
        ):
            codes = Codes([], CALLS)
            self.assertEqual(codes.run(codes.begin(function, [number]), 500)[3], end, (function, number))

    def test_a_call_that_fails_behind_a_try(self):
        # The second call of h stands in block 4, behind the try: nothing catches it.
        codes = Codes([], [
            ("f", "number", {
                0: ((("v0", "number"),), (context("mark", ("f", 0, {})),), ("try", "g", ("v0",), 1, 2)),
                1: ((("v1", "number"),), (context("mark", ("f", 1, {})), ("v2", "call", "g", ("v1",))), ("return", "v2")),
                2: ((("v3", "number"),), (context("mark", ("f", 2, {})),), ("return", "v3")),
            }),
            ("g", "number", {
                0: ((("v0", "number"),), (context("mark", ("g", 0, {})), ("v1", "const", 1), ("v2", "minus", "v0", "v1"),
                                         ("v3", "over", "v1", "v2")), ("return", "v2")),
            }),
        ])
        self.assertEqual(codes.run(codes.begin("f", [2]), 100)[3], ("failed", -1, (("f", 1), ("g", 0))))
        self.assertEqual(codes.run(codes.begin("f", [1]), 100)[3], ("returned", -1))

    def test_a_put_or_show_ahead_of_a_mark_counts_two(self):
        codes = Codes([("row", "r", "number")], [("f", "number", {0: ((), (
            context("mark", ("f", 0, {})), ("v0", "const", 1), ("v1", "new", "r", "v0", "v0"), (None, "show", "v0"),
            context("mark", ("f", 1, {})), ("v2", "const", 0), (None, "put", "r", "v1", "v2", "v2"), context("back", ("f", 2, {})), context("still", ("f", 2, {})),
        ), ("return", "v0"))})])
        self.assertEqual([state[4] for state in self.states(codes, "f", [])], [1, 1, 1, 1, 3, 3, 3, 5, 5, 5, 5])

    def test_loops_forget_what_is_not_held(self):
        codes = Codes([], [numbers_code("f", {
            0: (["v0"], [], ("jump", 1, ("v0",))), 1: (["v1"], [("v2", "not", "v1")], ("branch", "v2", 2, 3)),
            2: ([], [], ("return", "v1")), 3: ([], [("v3", "const", 1), ("v4", "minus", "v1", "v3")], ("jump", 1, ("v4",))),
        })])
        found = [state[0][0][3] for state in self.states(codes, "f", [1]) if state[0] and state[0][0][1:3] == (1, 0)]
        self.assertEqual(found, [{"v0": 1, "v1": 1}, {"v0": 1, "v1": 0}])

    def test_parameters_that_are_exchanged(self):
        codes = Codes([], [numbers_code("f", {
            0: (["v0", "v1"], [("v9", "const", 3)], ("jump", 1, ("v0", "v1", "v9"))),
            1: (["v2", "v3", "v4"], [(None, "show", "v2")], ("branch", "v4", 2, 3)),
            2: ([], [("v5", "const", 1), ("v6", "minus", "v4", "v5")], ("jump", 1, ("v3", "v2", "v6"))),
            3: ([], [], ("return", "v3")),
        })])
        found = codes.run(codes.begin("f", [5, 7]), 100)
        self.assertEqual((found[2], found[3]), ((5, 7, 5, 7), ("returned", 5)))


class PlacedCode(unittest.TestCase):
    CODES = [
        ("f", "number", {
            0: ((("r0", "number"),), (context("mark", ("f", 0, {"n": "r0"})), ("s3", "copy", "r0"), ("r8", "const", 5),
                                     ("r0", "call", "g", ("r0",)), ("r1", "copy", "s3"), ("r0", "plus", "r0", "r1")),
                ("try", "g", ("r0",), 1, 2)),
            1: ((("r0", "number"),), (context("mark", ("f", 1, {"x": "r0"})), ("s3", "copy", "r0"), ("r0", "const", 1)), ("jump", 3, ())),
            2: ((("r0", "number"),), (context("still", ("f", 0, {})),), ("jump", 3, ())),
            3: ((), (context("mark", ("f", 2, {})),), ("return", "r0")),
        }),
        ("g", "number", {
            0: ((("r0", "number"),), (context("mark", ("g", 0, {})), ("s0", "copy", "r0"), ("r4", "const", 12), ("r0", "over", "r4", "r0")),
                ("return", "r0")),
        }),
    ]

    def test_states(self):
        codes = Codes([], self.CODES)
        found = [codes.begin("f", [3])]
        while found[-1][3] is None:
            found.append(codes.step(found[-1]))
        waiting = ("f", 0, 3, {"s3": 3})
        for frames, events in (
            ((("f", 0, 3, {"r0": 3, "r8": 5, "s3": 3}),), 1), ((waiting, ("g", 0, 0, {"r0": 3})), 2),
            ((waiting, ("g", 0, 4, {"r0": 4, "r4": 12, "s0": 3})), 2), ((("f", 0, 4, {"r0": 4, "s3": 3}),), 3),
            ((("f", 0, 6, {"s3": 3}), ("g", 0, 0, {"r0": 7})), 4), ((("f", 1, 0, {"r0": 1, "s3": 3}),), 6),
        ):
            self.assertIn((frames, {}, (), None, events), found)
        self.assertEqual(found[-1], ((), {}, (), ("returned", 1), 7))
        for state in found:
            self.assertTrue(codes.is_state(state))
        # A frame that waits holds no registers; one that stands at the call holds them all.
        wrong = ((("f", 0, 3, {"r0": 3, "r8": 5, "s3": 3}), ("g", 0, 0, {"r0": 3})), {}, (), None, 2)
        self.assertFalse(codes.is_state(wrong))
        self.assertFalse(codes.is_state((((*waiting,),), {}, (), None, 2)))

    def test_a_failure(self):
        codes = Codes([], self.CODES)
        self.assertEqual(codes.run(codes.begin("f", [0]), 90)[3], ("failed", -1, (("f", 0), ("g", 0))))
        self.assertEqual(codes.run(codes.begin("f", [-12]), 90)[3], ("returned", 1))
        found = codes.begin("g", [True])
        self.assertEqual(found[0], (("g", 0, 0, {"r0": 1}),))


class Programs(unittest.TestCase):
    def test_step_by_step(self):
        """run(state, a) and then run of b is run of a + b; each state is one; what is passed stays."""
        rng = random.Random(51)
        seen = {None: 0, "returned": 0, "failed": 0}
        for program in sound_programs(rng, 12):
            kinds, codes = kinds_and_codes(program)
            runner = Codes(kinds, list(codes.values()))
            for function, arguments in starts_of(program, rng):
                state = runner.begin(function, arguments)
                steps = [state]
                for _ in range(60):
                    before = repr(steps[-1])
                    steps.append(runner.step(steps[-1]))
                    self.assertEqual(repr(steps[-2]), before)
                    self.assertTrue(runner.is_state(steps[-1]))
                    self.held(runner, steps[-1])
                for _ in range(4):
                    a, b = rng.randint(0, 30), rng.randint(0, 30)
                    self.assertEqual(runner.run(state, a), steps[a])
                    self.assertEqual(runner.run(steps[a], b), steps[a + b])
                last = runner.run(state, 400)
                seen[last[3] and last[3][0]] += 1
                self.assertTrue(runner.is_state(last))
                if last[3] is not None:
                    self.assertEqual(runner.step(last), last)
                    self.assertEqual(runner.run(last, 20000), last)
        self.assertGreater(min(seen.values()), 0)

    def held(self, runner, state):
        """Words for just the places that are held, in ascending dicts; frames that wait hold no registers."""
        frames, heap = state[:2]
        for at, (function, block, index, places) in enumerate(frames):
            held = kinds_at(runner.codes[function], runner.scope, (block, index))
            is_waiting = at < len(frames) - 1
            self.assertEqual(list(places), [place for place in held if not is_waiting or place[0] != "r"])
            self.assertEqual(list(places), sorted(places))
        self.assertEqual(list(heap), sorted(heap))

    def test_scope_of_codes_agrees(self):
        rng = random.Random(52)
        for program in sound_programs(rng, 8, 1):
            kinds, codes = kinds_and_codes(program)
            found = Codes(kinds, list(codes.values())).scope
            self.assertTrue(found == scope_of(program.units[0], {}))
            self.assertTrue(found == scope_of_codes(kinds, list(codes.values())))

    def test_placed_code_does_what_named_code_does(self):
        """What levels show, their ends and how many events there are do not differ; all states are states."""
        rng = random.Random(53)
        ends = {}
        for program in sound_programs(rng, 10):
            kinds, codes = kinds_and_codes(program)
            named = Codes(kinds, list(codes.values()))
            placed = Codes(kinds, [placed_of(code) for code in codes.values()])
            for function, arguments in starts_of(program, rng):
                one = named.run(named.begin(function, arguments), 600)
                other = placed.begin(function, arguments)
                for _ in range(25):
                    other = placed.step(other)
                    self.assertTrue(placed.is_state(other))
                    self.held(placed, other)
                other = placed.run(other, 4000)
                if one[3] is not None:
                    self.assertEqual((one[2], one[4], one[3][0]), (other[2], other[4], other[3][0]))
                    if one[3][0] == "failed":
                        self.assertEqual(one[3], other[3])
                    ends[one[3][0]] = ends.get(one[3][0], 0) + 1
        self.assertEqual(set(ends), {"returned", "failed"})


class Attributes(unittest.TestCase):
    def test_attributes(self):
        kinds, passed = list(reversed(KINDS)), [CALLS[2], CALLS[0], CALLS[1]]
        codes = Codes(kinds=kinds, codes=passed)
        self.assertEqual(codes.kinds, tuple(sorted(KINDS, key=lambda kind: kind[1])))
        self.assertEqual(codes.codes, {code[0]: code for code in CALLS})
        self.assertEqual(list(codes.codes), ["f", "g", "h"])
        self.assertEqual([list(code[2]) for code in codes.codes.values()], [[0, 2, 4], [0], [0, 1, 9]])
        self.assertTrue(codes.scope == Scope(KINDS, {name: (("number",), "number") for name in "fgh"}))
        kinds.clear()
        passed.clear()
        self.assertEqual(len(codes.kinds), 5)

    def test_codes_that_are_passed_may_be_changed_later(self):
        blocks = dict(CALLS[1][2])
        passed = ("g", "number", blocks)
        codes = Codes([], [CALLS[2], passed])
        blocks.clear()
        self.assertEqual(codes.codes["g"], CALLS[1])
        self.assertEqual(codes.run(codes.begin("g", [2]), 99)[3], ("returned", 2))

    def test_equality(self):
        self.assertTrue(Codes(KINDS, CALLS) == Codes(tuple(KINDS[::-1]), CALLS[::-1]))
        self.assertFalse(Codes(KINDS, CALLS) != Codes(KINDS, tuple(CALLS)))
        self.assertFalse(Codes(KINDS, CALLS) == Codes([], CALLS))
        self.assertFalse(Codes([], CALLS[2:]) == Codes([], CALLS[1:]))
        for thing in odd_values() + [CALLS]:
            self.assertFalse(Codes([], CALLS) == thing)
            self.assertTrue(Codes([], CALLS) != thing)


class WrongCodes(unittest.TestCase):
    def refused(self, error, kinds, codes):
        with self.assertRaises(error) as caught:
            Codes(kinds, codes)
        return getattr(caught.exception, "at", "none")

    def test_kinds(self):
        for thing in odd_values():
            if not (isinstance(thing, (list, tuple)) and len(thing) == 0):
                self.refused(BadKinds, thing, None)
            self.refused(BadKinds, [KINDS[1], thing], None)
        for kinds in (
            [KINDS[1], KINDS[1]], [("row", "a", "b")], [("choice", "a", (("b", ("number", "d")),))], [KINDS[2]],
            [("row", "a", "v"), KINDS[0]], [("choice", "a", (("a", ()),))],
        ):
            self.refused(BadKinds, kinds, CALLS)
        Codes([("row", "a", "a"), ("choice", "b", (("d", ("a", "b", "truth")),))], CALLS)

    def test_forms(self):
        for thing in odd_values() + [{"f": CALLS[0]}, "fgh"]:
            is_list = isinstance(thing, (list, tuple))
            found = self.refused(BadCodes, [], thing)
            self.assertEqual(found, 0 if is_list and len(thing) > 0 else None, thing)
            self.assertEqual(self.refused(BadCodes, [], [CALLS[2], thing]), 1)
            # The form of all items is asked ahead of all else.
            self.assertEqual(self.refused(BadCodes, [], [("z", "number", {0: ((), (), ("return", "v0"))}), CALLS[2], thing]), 2)
        name, kind, blocks = CALLS[2]
        for code in (
            (name, kind, {1: blocks[1]}), (name, kind, {}), (name, "truth", blocks), [name, kind, blocks],
            (name, kind, {0: (tuple((f"v{at}", "number") for at in range(4)),) + blocks[0][1:]}), ("h", kind, blocks, 1),
        ):
            self.assertEqual(self.refused(BadCodes, [], [CALLS[1], code, CALLS[0]]), 1)
        self.assertEqual(self.refused(BadCodes, [], [CALLS[2], CALLS[1], CALLS[2], CALLS[1]]), 2)

    def test_codes(self):
        # Functions that are called and are not there; the first wrong one is told.
        self.assertEqual(self.refused(BadCodes, [], [CALLS[2], CALLS[0]]), 1)
        self.assertEqual(self.refused(BadCodes, [], [CALLS[0], CALLS[1]]), 0)
        self.assertEqual(self.refused(BadCodes, [], [CALLS[2], CALLS[1], straight([], ("return", "v0"))]), 2)
        # Kinds of parameters and results that are not among them.
        odd = straight([("v1", "const", 0)], ("return", "v1"), [("v0", "e")], name="i")
        self.assertEqual(self.refused(BadCodes, KINDS, [CALLS[2], odd]), 1)
        odd = straight([], ("return", "v0"), [("v0", "number")], "r", name="i")
        self.assertEqual(self.refused(BadCodes, [], [CALLS[2], odd]), 1)
        odd = ("i", "e", {0: ((), (context("mark", ("i", 0, {})),), ("jump", 1, ())), 1: ((), (context("mark", ("i", 1, {})),), ("jump", 1, ()))})
        self.assertEqual(self.refused(BadCodes, KINDS, [CALLS[2], odd]), 1)
        self.assertEqual(self.refused(BadCodes, [], [CALLS[2], ("z", "number", {0: ((), (), ("return", "v0"))})]), 1)

    def test_levels(self):
        ring = ("i", "number", {0: ((), (context("mark", ("i", 0, {})),), ("jump", 1, ())), 1: ((), (context("mark", ("i", 1, {})),), ("jump", 1, ()))})
        for level in (CALLS[2:], PlacedCode.CODES):
            # Code without places is of both levels; the first code with a place tells the level of all.
            self.assertEqual(len(Codes([], [ring, *level]).codes), len(level) + 1)
            self.assertEqual(len(Codes([], [*level, ring]).codes), len(level) + 1)
        self.assertEqual(list(Codes([], [ring]).codes), ["i"])
        g = PlacedCode.CODES[1]
        self.assertEqual(self.refused(BadCodes, [], [ring, CALLS[2], g]), 2)
        self.assertEqual(self.refused(BadCodes, [], [g, ring, CALLS[2]]), 2)
        nine = ("i", "number", {0: ((), (context("mark", ("i", 0, {})), ("r8", "const", 1), ("r0", "copy", "r8")), ("return", "r0"))})
        self.assertEqual(Codes([], [nine]).begin("i", [])[4], 1)

    def test_all_sorts_of_code(self):
        kinds = [*KINDS, ("row", "e", "number")]
        g = straight([("v1", "make", "v", ())], ("return", "v1"), [("v0", "number")], "c", "g")
        h = straight([("v1", "const", 1)], ("return", "v1"), name="h")
        self.assertEqual(list(Codes(kinds, [NAMED, g, h]).codes), ["f", "g", "h"])
        placed = [
            ("g", "c", {0: ((("r0", "number"),), (still("g"), ("r0", "make", "v", ())), ("return", "r0"))}),
            ("h", "number", {0: ((), (still("h"), ("r0", "const", 1)), ("return", "r0"))}),
        ]
        self.assertEqual(list(Codes(kinds, [*placed, PLACED]).codes), ["f", "g", "h"])


class WrongValues(unittest.TestCase):
    def test_functions_and_arguments(self):
        codes = Codes(KINDS, [*CALLS, straight([("v1", "const", 0)], ("return", "v1"), [("v0", "c")], name="i"),
                              straight([("v0", "const", 0)], ("return", "v0"), name="j")])
        for thing in odd_values() + ["i", "e", "v"]:
            with self.assertRaises(NoFunction) as caught:
                codes.begin(thing, None)
            self.assertEqual(repr(caught.exception.name), repr(thing))
        for thing in odd_values() + [[1, 2], [None], ["1"], [1.5], {0: 1}, "1", [[1]]]:
            is_one = isinstance(thing, (list, tuple)) and len(thing) == 1 and isinstance(thing[0], int)
            if not is_one:
                self.assertRaises(BadArguments, codes.begin, "f", thing)
            if not (isinstance(thing, (list, tuple)) and len(thing) == 0):
                self.assertRaises(BadArguments, codes.begin, "j", thing)
        for thing, word in (([True], 1), ((False,), 0), ([-5], -5)):
            found = codes.begin(function="f", arguments=thing)
            self.assertEqual(repr(found), repr(((("f", 0, 0, {"v0": word}),), {}, (), None, 1)))
        self.assertEqual(codes.begin("j", ()), ((("j", 0, 0, {}),), {}, (), None, 0))

    def test_most(self):
        codes = Codes([], CALLS)
        state = codes.begin("f", [1])
        for thing in odd_values() + [-1, 20001, 1.0, "1"]:
            if not (thing.__class__ is int and 0 <= thing <= 20000):
                self.assertRaises(BadMost, codes.run, state, thing)
            self.assertRaises(BadState, codes.run, None, thing)
        self.assertEqual(codes.run(state=state, most=0), state)
        self.assertEqual(codes.run(state, 20000)[3], ("returned", 3))

    def good_states(self):
        codes = Codes(KINDS, [
            ("f", "number", {
                0: ((("v0", "number"),), (context("mark", ("f", 0, {})), ("v1", "make", "v", ()), ("v2", "new", "s", "v0", "v1"),
                                         (None, "show", "v0"), ("v3", "call", "g", ("v1", "v2"))), ("return", "v3")),
            }),
            ("g", "number", {
                0: ((("v5", "c"), ("v6", "s")), (context("mark", ("g", 0, {})), ("v7", "tag", "v5")), ("try", "h", (), 1, 2)),
                1: ((("v8", "number"),), (context("still", ("g", 0, {})),), ("return", "v8")),
                2: ((("v9", "number"),), (context("still", ("g", 0, {})),), ("fail", "v9")),
            }),
            straight([("v0", "const", 2)], ("fail", "v0"), name="h"),
        ])
        state = codes.begin("f", [2])
        found = [state]
        while state[3] is None:
            state = codes.step(state)
            found.append(state)
        return codes, found

    def test_one_thing_otherwise(self):
        codes, states = self.good_states()
        self.assertEqual(states[-1][3], ("failed", 2, (("f", 0), ("g", 0))))
        for state in states:
            self.assertTrue(codes.is_state(thing=state))
            for turn in (as_list, as_bool):
                for other in changed(state, turn):
                    self.assertFalse(codes.is_state(other), other)
                    self.assertRaises(BadState, codes.step, other)

    def test_wrong_parts(self):
        codes, states = self.good_states()
        deep = [state for state in states if len(state[0]) == 3][0]
        frames, heap, shown, end, events = deep
        f, g, h = frames
        self.assertEqual((f[1:3], g[1:3], h[1:3]), ((0, 4), (0, 2), (0, 0)))
        wrong = [
            (frames, heap, shown, end), (*deep, 0), list(deep), ((), heap, shown, None, events), (frames, heap, shown, ("returned", 1), events),
            (frames, heap, shown, ("failed", 1, (("f", 0),)), events), ((f, h), heap, shown, end, events), ((g, f), heap, shown, end, events),
            ((f, g, g), heap, shown, end, events), ((f, f), heap, shown, end, events), (frames, heap, shown, end, -1),
            (frames, heap, (None,), end, events), (frames, heap, ("1",), end, events), (frames, {**heap, 9: ("z", ())}, shown, end, events),
            (frames, {**heap, 9: ("w", (1, 2))}, shown, end, events), (frames, {**heap, 9: ("r", (0,) * 51)}, shown, end, events),
            (frames, {**heap, 0: ("v", ())}, shown, end, events), (frames, {**heap, 9: ("only", ())}, shown, end, events),
        ]
        for other in (
            ("f", 0, 3, f[3]), ("f", 0, 5, {**f[3], "v3": 1}), ("f", 1, 4, f[3]), ("f", 0, 4), (*f, 0), ("f", 0, 4, {**f[3], "v3": 1}),
            ("f", 0, 4, {"v0": 2, "v1": 1}), ("f", 0, 4, {**f[3], "v2": "2"}), ("f", 0, 4, {"v0": 2, "v1": 1, "v9": 2}), ("f", 0, -1, f[3]),
            ("f", 0, 6, f[3]), ("z", 0, 4, f[3]), (None, 0, 4, f[3]), ("f", None, 4, f[3]), ("f", 0, None, f[3]), ("f", 0, 4, None),
            ("f", 0, 4, list(f[3])), ("f", 0, 4, {"v0": 2, "v1": 1, 2: 2}), None, ([], 0, 4, f[3]), ("f", [], 4, f[3]),
        ):
            wrong.append(((other, g, h), heap, shown, end, events))
        last = ((), heap, shown)
        for told in (
            (), ("returned",), ("returned", None), ("returned", 1, 1), ("failed", 1), ("failed", 1, ()), ("failed", None, (("f", 0),)),
            ("failed", 1, (("f", -1),)), ("failed", 1, (("of", 0),)), ("failed", 1, (("f",),)), ("failed", 1, (("f", 0, 0),)),
            ("failed", 1, (("f", True),)), ("failed", 1, [("f", 0)]), ("failed", 1, (["f", 0],)), ("cut",), "returned", ["returned", 1],
            ("failed", 1, (("f", 0), None)), ("failed", True, (("f", 0),)), (None,), ("failed", 1, (("f", 0),), 0), None,
            ("gone", 1, (("f", 0),)), ("cut", 1), (1, 1), ("failed", 1, {0: ("f", 0)}),
        ):
            wrong.append((*last, told, events))
        for thing in wrong + odd_values():
            self.assertFalse(codes.is_state(thing), thing)
            self.assertRaises(BadState, codes.step, thing)
            self.assertRaises(BadState, codes.run, thing, None)
        for thing in odd_values():
            for at in range(5):
                other = (*deep[:at], thing, *deep[at + 1:])
                is_right = (at == 1 and thing == {}) or (at == 2 and thing in ((), (0,)) and thing.__class__ is tuple) \
                    or (at == 3 and thing is None) or (at == 4 and thing.__class__ is int and thing >= 0)
                self.assertEqual(codes.is_state(other), is_right, (at, thing))

    def test_right_states_that_no_run_has(self):
        codes, states = self.good_states()
        frames, heap, shown, end, events = [state for state in states if len(state[0]) == 3][0]
        f, g, h = frames
        for state in (
            # Which words tell boxes is not asked; a run may begin in any frame, and the keys stand in any order.
            (frames, {}, shown, end, events), ((g, h), heap, shown, end, 0), ((h,), {}, (), None, 10 ** 12),
            (frames, {900: ("w", (5, 7, -1)), 1: ("r", (BIG,) * 50)}, (BIG, -1), end, events),
            ((("f", 0, 4, {"v2": -5, "v1": BIG, "v0": 0}), g, h), heap, shown, end, events),
            ((), {}, (), ("returned", BIG), 0), ((), {}, (), ("failed", -1, (("zz", 9), ("a", 0))), 0),
        ):
            self.assertTrue(codes.is_state(state), state)
        self.assertTrue(codes.is_state(states[-1][:3] + (("returned", 5), 1)))

    def test_what_is_returned_is_new(self):
        codes, states = self.good_states()
        for state in states:
            found = codes.run(state, 0)
            self.assertEqual(found, state)
            found[1].clear()
            for frame in found[0]:
                frame[3].clear()
            self.assertTrue(codes.is_state(state))
            found = codes.step(state)
            before = repr(state)
            found[1][77] = 1
            for frame in found[0]:
                frame[3].clear()
            self.assertEqual(repr(state), before)


if __name__ == "__main__":
    unittest.main()
