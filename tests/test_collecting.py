"""Point 101: roots of states, collections of any addresses, and states that are alike."""

import random
import unittest

from code_tools import context, kinds_and_codes, sound_programs, starts_of
from odd_values import odd_values
from stopanywhere.collecting import alike_states, collected, reached_of, roots_of
from stopanywhere.errors import BadAddresses, BadState, BadWalk
from stopanywhere.forms import scope_of_codes
from stopanywhere.heaps import reached
from stopanywhere.passes import lean
from stopanywhere.placing import placed_code
from stopanywhere.runner import Codes
from stopanywhere.tables import roots_at
from stopanywhere.ways import kinds_at

KINDS = [("choice", "c", (("v", ()), ("w", ("number", "c")))), ("row", "r", "c")]
# f makes a row of one box, calls g with it, and shows the number of the box behind that; v9 is wanted by nobody.
F_CODE = ("f", "number", {0: ((("v0", "number"),), (
    context("mark", ("f", 0, {"x": "v0"})), ("v1", "make", "v", ()), ("v2", "make", "w", ("v0", "v1")), ("v3", "const", 1),
    ("v9", "make", "v", ()), ("v4", "new", "r", "v3", "v2"), ("v5", "call", "g", ("v4", "v0")), ("v6", "at", "r", "v4", "v5"),
    ("v7", "part", "w", 0, "v6"), (None, "show", "v7"),
), ("return", "v4"))})
F_CODE = (F_CODE[0], "r", F_CODE[2])
G_CODE = ("g", "number", {0: ((("v0", "r"), ("v1", "number")), (
    context("mark", ("g", 0, {"y": ("r", "v0")})), ("v2", "const", 0), ("v3", "make", "v", ()), ("v4", "make", "w", ("v1", "v3")),
    (None, "put", "r", "v0", "v2", "v4"),
), ("return", "v2"))})
CODES = Codes(KINDS, [F_CODE, G_CODE])
START = CODES.begin("f", [5])


class ByHand(unittest.TestCase):
    def test_roots(self):
        self.assertEqual(roots_of(CODES, START), [])
        state = CODES.run(START, 6)
        self.assertEqual(roots_of(CODES, state), [(0, "v4", "r")])
        self.assertEqual(reached_of(CODES, state), [4, 2, 1])
        state = CODES.run(START, 7)
        self.assertEqual([frame[0] for frame in state[0]], ["f", "g"])
        self.assertEqual(roots_of(CODES, state), [(0, "v4", "r"), (1, "v0", "r")])
        state = CODES.run(START, 10)
        self.assertEqual(roots_of(CODES, state), [(0, "v4", "r"), (1, "v0", "r"), (1, "v3", "c")])
        self.assertEqual(reached_of(CODES, state), [4, 5, 2, 1])
        end = CODES.run(START, 99)
        self.assertEqual((roots_of(CODES, end), reached_of(CODES, end)), ([], []))

    def test_collected(self):
        state = CODES.run(START, 10)
        frames, heap, shown, end, events = collected(CODES, state, [7, 9, 1, 4])
        self.assertEqual(heap, {1: ("w", (5, 4)), 4: ("v", ()), 7: ("r", (1,)), 9: ("v", ())})
        self.assertEqual(list(heap), [1, 4, 7, 9])
        self.assertEqual((shown, end, events), state[2:])
        self.assertEqual(frames[0][3], {"v0": 5, "v1": 1, "v2": 2, "v3": 1, "v4": 7, "v9": 3})
        self.assertEqual(frames[1][3], {"v0": 7, "v1": 5, "v2": 0, "v3": 9})
        self.assertEqual([frame[:3] for frame in frames], [frame[:3] for frame in state[0]])
        self.assertTrue(alike_states(CODES, state, (frames, heap, shown, end, events)))
        self.assertEqual(CODES.run((frames, heap, shown, end, events), 99)[2], (5,))

    def test_the_end(self):
        end = CODES.run(START, 99)
        self.assertEqual(end[3][0], "returned")
        self.assertEqual(collected(CODES, end, []), end)
        self.assertRaises(BadAddresses, collected, CODES, end, [1])

    def test_alike_states(self):
        state = CODES.run(START, 10)
        frames, heap, shown, end, events = state
        outer, inner = frames

        def alike(*others):
            found = alike_states(CODES, state, others)
            self.assertIs(alike_states(CODES, others, state), found)
            return found

        def held(frame, **places):
            return (*frame[:3], {**frame[3], **places})

        self.assertTrue(alike(*state))
        self.assertFalse(alike(frames, heap, (1,), end, events))
        self.assertFalse(alike(frames, heap, shown, end, events + 1))
        self.assertFalse(alike((outer,), heap, shown, end, events) if CODES.is_state(((outer,), heap, shown, end, events)) else False)
        # Behind the call v0, v1, v2 and v3 of f are not wanted; v4 is.
        self.assertTrue(alike((held(outer, v0=99, v1=77, v2=0, v3=-1, v9=0), inner), heap, shown, end, events))
        self.assertFalse(alike((held(outer, v4=0), inner), heap, shown, end, events))
        self.assertFalse(alike((outer, held(inner, v1=6)), heap, shown, end, events))
        self.assertFalse(alike((outer, held(inner, v2=1)), heap, shown, end, events))
        self.assertFalse(alike((outer, held(inner, v3=2)), heap, shown, end, events))
        # A box that looks the same, whichever it is; but not a row, which can be told from another one.
        self.assertTrue(alike((outer, held(inner, v3=1)), heap, shown, end, events))
        self.assertFalse(alike((outer, held(inner, v0=6)), {**heap, 6: heap[4]}, shown, end, events))
        self.assertFalse(alike(frames, {**heap, 2: ("w", (6, 1))}, shown, end, events))
        self.assertTrue(alike(frames, {**heap, 8: ("w", (6, 1))}, shown, end, events))

    def test_alike_ends(self):
        def end(told, shown=(), heap=None):
            return (), heap or {}, shown, told, 3

        for one, other, wanted in (
            (("returned", 4), ("returned", 5), True), (("returned", 4), ("failed", 4, (("f", 0),)), False),
            (("failed", 4, (("f", 0),)), ("failed", 4, (("f", 0),)), True), (("failed", 4, (("f", 0),)), ("failed", 5, (("f", 0),)), False),
            (("failed", 4, (("f", 0),)), ("failed", 4, (("f", 1),)), False),
        ):
            self.assertIs(alike_states(CODES, end(one), end(other)), wanted)
        self.assertFalse(alike_states(CODES, end(("returned", 4)), end(("returned", 4), (1,))))
        self.assertTrue(alike_states(CODES, end(("returned", 4)), end(("returned", 4), (), {3: ("v", ())})))
        self.assertFalse(alike_states(CODES, end(("returned", 4)), START))

    def test_where_frames_stand(self):
        self.assertFalse(alike_states(CODES, CODES.run(START, 2), CODES.run(START, 3)))
        # The row between makes what nobody wants.
        self.assertFalse(alike_states(CODES, CODES.run(START, 4), CODES.run(START, 5)))


class Runs(unittest.TestCase):
    def levels(self, seed, many):
        rng = random.Random(seed)
        for program in sound_programs(rng, many):
            kinds, codes = kinds_and_codes(program)
            scope = scope_of_codes(kinds, list(codes.values()))
            for level in (codes, lean(scope, codes)[0], {name: placed_code(codes[name], 6)[0] for name in codes}):
                runner = Codes(kinds, list(level.values()))
                for name, arguments in starts_of(program, rng)[:3]:
                    yield rng, runner, runner.begin(name, arguments)

    def test_roots(self):
        asked = 0
        for rng, runner, state in self.levels(5, 3):
            for _ in range(60):
                state = runner.step(state)
                if rng.random() < 0.3:
                    wanted = []
                    for at, (function, number, index, places) in enumerate(state[0]):
                        code = runner.codes[function]
                        kinds = kinds_at(code, runner.scope, (number, index))
                        waiting = at < len(state[0]) - 1
                        wanted.extend((at, place, kinds[place]) for place in roots_at(code, runner.scope, (number, index), waiting))
                    self.assertEqual(roots_of(runner, state), wanted)
                    words = [(kind, state[0][at][3][place]) for at, place, kind in wanted]
                    self.assertEqual(reached_of(runner, state), reached(runner.scope, state[1], words))
                    asked += len(wanted)
        self.assertGreater(asked, 30)

    def test_collections_between_any_steps(self):
        moved = 0
        for rng, runner, state in self.levels(6, 8):
            other = state
            for _ in range(120):
                if rng.random() < 0.4:
                    addresses = rng.sample([*range(1, 60), 10 ** 9], len(reached_of(runner, other)))
                    before = other
                    other = collected(runner, other, addresses)
                    self.assertTrue(runner.is_state(other))
                    self.assertTrue(alike_states(runner, before, other))
                    if state[3] is None:
                        self.assertEqual(sorted(other[1]), sorted(addresses))
                    moved += len(addresses)
                self.assertTrue(alike_states(runner, state, other))
                self.assertEqual(state[2:3] + state[4:], other[2:3] + other[4:])
                state, other = runner.step(state), runner.step(other)
        self.assertGreater(moved, 200)


class WrongInputs(unittest.TestCase):
    def test_errors(self):
        for thing in odd_values():
            for call in (
                lambda: roots_of(thing, 0), lambda: reached_of(thing, 0), lambda: collected(thing, 0, 0), lambda: alike_states(thing, 0, 0),
            ):
                self.assertRaises(BadWalk, call)
            for call in (
                lambda: roots_of(CODES, thing), lambda: reached_of(CODES, thing), lambda: collected(CODES, thing, 0),
                lambda: alike_states(CODES, thing, START), lambda: alike_states(CODES, START, thing),
            ):
                self.assertRaises(BadState, call)
        state = CODES.run(START, 6)
        for thing in odd_values() + [[1, 2], [1, 2, 2], [1, 2, 0], [1, 2, 10 ** 9 + 1], [1, 2, True], [1, 2, 3, 4], {1: 1, 2: 2, 3: 3}, "123"]:
            self.assertRaises(BadAddresses, collected, CODES, state, thing)
        self.assertTrue(CODES.is_state(collected(CODES, state, (1, 2, 10 ** 9))))


if __name__ == "__main__":
    unittest.main()
