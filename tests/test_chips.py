"""Points 87 and 88: the chip, instruction by instruction, beside the runner of the same placed code."""

import random
import unittest

from bundles import bundle_of, code_bundle, drawn_orders, program_bundles
from code_tools import context, starts_of
from odd_values import odd_values
from stopanywhere.bits import instruction_at
from stopanywhere.chips import chip_begin, chip_run, chip_step, runner_state
from stopanywhere.errors import BadArguments, BadImage, BadMost, NoFunction
from stopanywhere.images import image, image_of, read_image, spot_at
from stopanywhere.layouts import is_layout, least_layout, leaps
from stopanywhere.plain import told_run
from stopanywhere.runner import Codes

KINDS = (("choice", "c", (("v", ()), ("w", ("number", "c")))), ("row", "r", "c"))


def code_of(name, taken, kind, blocks):
    """Placed code: of each block the parameters, the rows behind a mark, and the end."""
    found = {}
    for number, (parameters, rows, end) in blocks.items():
        found[number] = (tuple(parameters), (context("mark", (name, number, {})), *rows), end)
    return name, kind, found


NUMBER = ("r0", "number")
BOXES = code_of("f", 1, "r", {
    0: ([NUMBER], [("r1", "make", "v", ()), ("r2", "make", "w", ("r0", "r1")), ("s4", "copy", "r2"), ("r3", "tag", "r2"), ("r4", "part", "w", 0, "r2"),
                   ("r5", "tag", "r1"), ("r3", "new", "r", "r4", "r2"), ("r0", "long", "r", "r3"), ("r1", "const", 1),
                   ("r0", "minus", "r0", "r1"), (None, "put", "r", "r3", "r0", "r2"), ("r2", "at", "r", "r3", "r0"), ("r4", "part", "w", 0, "r2"),
                   (None, "show", "r4"), ("r0", "copy", "r3")], ("return", "r0")),
})
# f calls g in a try; g divides, or calls h, which fails.
CALLS = [
    code_of("f", 1, "number", {
        0: ([NUMBER], [("s0", "copy", "r0")], ("try", "g", ("r0",), 1, 2)), 1: ([NUMBER], [(None, "show", "r0")], ("return", "r0")),
        2: ([NUMBER], [("r1", "copy", "s0"), ("r0", "plus", "r0", "r1")], ("return", "r0")),
    }),
    code_of("g", 1, "number", {
        0: ([NUMBER], [("r1", "const", 2), ("r2", "less", "r0", "r1")], ("branch", "r2", 1, 2)), 1: ([], [("r1", "const", 6), ("r0", "over", "r1", "r0")], ("return", "r0")),
        2: ([], [("r0", "call", "h", ("r0",))], ("return", "r0")),
    }),
    code_of("h", 1, "number", {0: ([NUMBER], [("r1", "const", 40), ("r1", "plus", "r1", "r0")], ("fail", "r1"))}),
    code_of("k", 1, "number", {0: ([("r0", "c")], [("r0", "tag", "r0")], ("return", "r0"))}),
]


def bundle_with(codes, registers=6):
    return "bundle", registers, tuple(codes), KINDS


class ByHand(unittest.TestCase):
    def test_begin(self):
        told = image(bundle_with(CALLS))
        first = [part[2][0][2] for part in told[4]]
        self.assertEqual(chip_begin(told, "f", [5]), (((first[0], {}, None),), (5, 0, 0, 0, 0, 0), {}, (), None))
        self.assertEqual(chip_begin(told, "h", (True,)), (((first[2], {}, None),), (1, 0, 0, 0, 0, 0), {}, (), None))
        self.assertIs(chip_begin(told, "h", [True])[1][0].__class__, int)
        self.assertEqual(len(chip_begin(image(bundle_with(CALLS, 9)), "g", [False])[1]), 9)

    def states(self, told, function, arguments):
        found = [chip_begin(told, function, arguments)]
        while found[-1][4] is None:
            found.append(chip_step(told, found[-1]))
        return found

    def test_boxes(self):
        told = image(bundle_with([BOXES]))
        states = self.states(told, "f", [2])
        self.assertEqual(states[1][2], {1: ("v", ())})
        self.assertEqual(states[2][2], {1: ("v", ()), 2: ("w", (2, 1))})
        self.assertEqual(states[3][0][0][1], {4: 2})
        self.assertEqual([states[4][1][3], states[5][1][4], states[6][1][5]], [1, 2, 0])
        self.assertEqual((states[7][1][3], states[7][2][3]), (3, ("r", (2, 2))))
        self.assertEqual(states[8][1][0], 2)
        self.assertEqual(states[-1][3:], ((2,), ("returned", 3)))
        self.assertEqual(states[-1][0], ())
        self.assertEqual(chip_step(told, states[-1]), states[-1])
        self.assertEqual(chip_run(told, "f", [2], 99), ([2], ("returned", ("row", 0), (("r", (("w", (2, ("v", ()))),) * 2),)), len(states) - 1))
        # An index outside of a row, a row too long, none.
        self.assertEqual(chip_run(told, "f", [0], 99)[1], ("failed", -2, (("f", 0),)))
        self.assertEqual(chip_run(told, "f", [51], 99)[1], ("failed", -2, (("f", 0),)))
        self.assertEqual(chip_run(told, "f", [-1], 99)[1:], (("failed", -2, (("f", 0),)), 7))
        self.assertEqual(self.states(told, "f", [-1])[-1][4][0], "failed")

    def test_calls_tries_and_failures(self):
        told = image(bundle_with(CALLS))
        states = self.states(told, "f", [1])
        frames = [len(state[0]) for state in states]
        self.assertEqual(frames[:4], [1, 1, 2, 2])
        (behind, slots, handler), (address, inner, none) = states[2][0]
        self.assertEqual((slots, inner, none), ({0: 1}, {}, None))
        self.assertEqual((spot_at(told, handler), spot_at(told, address)), (("f", 2, 1), ("g", 0, 1)))
        # Back in f, behind the try: its handler is none any more.
        back = [state for at, state in enumerate(states) if len(state[0]) == 1 and at > 2][0]
        self.assertEqual((back[0], back[1][0]), (((behind, {0: 1}, None),), 6))
        self.assertEqual(states[-1][3:], ((6,), ("returned", 6)))
        # h fails two frames in; f's handler takes it.
        states = self.states(told, "f", [7])
        self.assertEqual(max(len(state[0]) for state in states), 3)
        at = [at for at, state in enumerate(states) if len(state[0]) == 3][-1]
        self.assertEqual((states[at + 1][0], states[at + 1][1][0]), (((handler, {0: 7}, None),), 47))
        self.assertEqual(states[-1][4], ("returned", 54))
        # Division by nothing, taken too.
        self.assertEqual(chip_run(told, "f", [0], 99)[:2], ([], ("returned", -1, ())))
        # Without a handler: the addresses of the frames, of the last one that of what fails.
        states = self.states(told, "g", [3])
        _, number, addresses = states[-1][4]
        self.assertEqual((number, states[-1][0]), (43, ()))
        self.assertEqual(addresses[1], states[-2][0][1][0])
        self.assertEqual(instruction_at(6, told[3], addresses[1])[0], ("fail", "r1"))
        self.assertEqual(chip_run(told, "g", [3], 99)[1], ("failed", 43, (("g", 2), ("h", 0))))
        self.assertEqual(chip_run(told, "g", [0], 99)[1], ("failed", -1, (("g", 1),)))
        self.assertEqual(runner_state(told, states[-1]), ((), {}, (), ("failed", 43, (("g", 2), ("h", 0)))))

    def test_cut(self):
        told = image(bundle_with(CALLS))
        whole = chip_run(told, "f", [7], 20000)
        for most in range(whole[2] + 3):
            found = chip_run(told, "f", [7], most)
            if most >= whole[2]:
                self.assertEqual(found, whole)
            else:
                self.assertEqual(found[1:], (("cut",), most))
        ring = bundle_of({0: ([], ("jump", 1, ())), 1: ([("r1", "const", 4), (None, "show", "r0")], ("jump", 1, ()))})
        self.assertEqual(chip_run(image(ring), "f", [8], 10), ([8, 8, 8], ("cut",), 10))
        self.assertEqual(chip_run(image(ring), "f", [8], 0), ([], ("cut",), 0))

    def test_each_row_of_numbers(self):
        cases = [("plus", 5), ("minus", -9), ("times", -14), ("over", -1), ("rest", 5), ("less", 1), ("atmost", 1), ("same", 0)]
        for word, wanted in cases:
            told = image(bundle_of({0: ([("r2", "const", 7), ("r1", "const", -2), ("r0", word, "r1", "r2"), (None, "show", "r0")], ("return", "r0"))}))
            self.assertEqual(chip_run(told, "f", [0], 99)[:2], ([wanted], ("returned", wanted, ())), word)
        for number, wanted in ((0, 1), (3, 0)):
            told = image(bundle_of({0: ([("r1", "not", "r0")], ("fail", "r1"))}))
            self.assertEqual(chip_run(told, "f", [number], 99)[1], ("failed", wanted, (("f", 0),)))

    def test_nothing(self):
        # A part of another variant is nothing; nothing has a tag, a length and parts of 0, and no items.
        rows = [("r1", "make", "w", ("r0", "r2")), ("r3", "part", "w", 1, "r1"), ("r4", "tag", "r3"), (None, "show", "r4")]
        rows = [("r2", "make", "v", ()), ("r1", "part", "w", 1, "r2"), ("r3", "tag", "r1"), (None, "show", "r3"), ("r4", "part", "w", 0, "r1"), (None, "show", "r4"),
                ("r4", "part", "w", 0, "r2"), (None, "show", "r4")]
        code = code_of("f", 1, "number", {0: ([NUMBER], rows, ("return", "r0"))})
        self.assertEqual(chip_run(image(bundle_with([code])), "f", [3], 99), ([0, 0, 0], ("returned", 3, ()), 9))


class BesideTheRunner(unittest.TestCase):
    def check(self, told, bundle, function, arguments, most):
        """Whether each instruction is a row or an end of the runner, in order; how many there were."""
        codes = Codes(list(bundle[3]), list(bundle[2]))
        blocks = {code[0]: code[2] for code in bundle[2]}
        state, other = chip_begin(told, function, arguments), codes.begin(function, arguments)
        spot_of = {}
        for many in range(most):
            if state[4] is not None:
                other = codes.run(other, 300)
                self.assertEqual(runner_state(told, state), other[:4])
                return many
            here = runner_state(told, state)
            spot = here[0][-1][:3]
            # The second instruction of an end of two stands where the first one did.
            if spot_of.get("last") != (spot, len(here[0])) or not spot_of["two"]:
                other = self.quiet(codes, blocks, other, here)
                self.assertEqual(here, other[:4])
                step = chip_step(told, state)
                follows = step[4] is None and len(step[0]) == len(state[0]) and runner_state(told, step)[0][-1][:3] == spot and step[0][-1][0] > state[0][-1][0]
                is_end = spot[2] == len(blocks[spot[0]][spot[1]][1])
                spot_of = {"last": (spot, len(here[0])), "two": is_end and follows}
                if not spot_of["two"]:
                    other = codes.step(other)
            else:
                spot_of = {"last": None, "two": False}
                other = codes.step(other)
            state = chip_step(told, state)
        return most

    def quiet(self, codes, blocks, state, here):
        """The runner behind context rows and jumps that have no bits."""
        for _ in range(200):
            function, number, at, _ = state[0][-1]
            _, rows, end = blocks[function][number]
            if at < len(rows) and rows[at][1] in ("mark", "back", "still"):
                state = codes.step(state)
            elif state[0][-1][:3] != here[0][-1][:3] and at == len(rows) and end[0] == "jump":
                state = codes.step(state)
            else:
                break
        return state

    def test_programs(self):
        rng = random.Random(1)
        asked = 0
        for program, bundle in program_bundles(rng, 2):
            orders = drawn_orders(rng, bundle)
            told = image_of(bundle, orders, least_layout(bundle, orders))
            for name, arguments in starts_of(program, rng)[:2]:
                asked += self.check(told, bundle, name, arguments, 25)
        self.assertGreater(asked, 20)

    def test_random_codes(self):
        rng = random.Random(2)
        for _ in range(5):
            bundle, taken = code_bundle(rng)
            orders = drawn_orders(rng, bundle)
            told = image_of(bundle, orders, least_layout(bundle, orders))
            self.check(told, bundle, "f", [rng.randint(-2, 3) for _ in range(taken)], 40)

    def test_by_hand(self):
        for codes, name, arguments in ((CALLS, "f", [7]), (CALLS, "f", [1]), (CALLS, "g", [3]), ([BOXES], "f", [2]), ([BOXES], "f", [0])):
            bundle = bundle_with(codes)
            self.check(image(bundle), bundle, name, arguments, 99)

    def test_what_waits_tells_slots_alone(self):
        told = image(bundle_with(CALLS))
        state = chip_begin(told, "f", [7])
        for _ in range(3):
            state = chip_step(told, state)
        frames, heap, shown, end = runner_state(told, state)
        self.assertEqual(frames[0], ("f", 0, 2, {"s0": 7}))
        self.assertEqual(frames[1][:2], ("g", 0))
        self.assertEqual(frames[1][3]["r0"], 7)
        self.assertEqual((heap, shown, end), ({}, (), None))


class Runs(unittest.TestCase):
    def test_programs(self):
        rng = random.Random(3)
        ends = {"returned": 0, "failed": 0}
        for program, bundle in program_bundles(rng, 10):
            pairs = [image(bundle)]
            orders = drawn_orders(rng, bundle)
            least = least_layout(bundle, orders)
            more = tuple(sorted({*least, *rng.sample(leaps(bundle, orders), min(3, len(leaps(bundle, orders))))}))
            pairs.append(image_of(bundle, orders, more if is_layout(bundle, orders, more) else least))
            for name, arguments in starts_of(program, rng)[:5]:
                outputs, end, _ = told_run(program, name, arguments, 300)
                runs = [chip_run(told, name, arguments, 2500) for told in pairs]
                if ("cut",) not in (end, runs[0][1], runs[1][1]):
                    self.assertEqual([run[:2] for run in runs], [(outputs, end)] * 2)
                    ends[end[0]] += 1
        self.assertGreater(min(ends.values()), 3)

    def test_context_rows_change_nothing_but_the_trace(self):
        rng = random.Random(4)
        for _, bundle in program_bundles(rng, 2):
            codes = []
            for name, result, blocks in bundle[2]:
                codes.append((name, result, {
                    number: (parameters, tuple(row for at, row in enumerate(rows) if at == 0 or row[1] not in ("mark", "back", "still")), end)
                    for number, (parameters, rows, end) in blocks.items()
                }))
            other = (*bundle[:2], tuple(codes), bundle[3])
            for name, _, blocks in bundle[2]:
                if all(kind == "number" for _, kind in blocks[0][0]):
                    arguments = [rng.randint(0, 3) for _ in blocks[0][0]]
                    one, two = [chip_run(image(told), name, arguments, 300) for told in (bundle, other)]
                    self.assertEqual((one[0], one[1][:2], one[2]), (two[0], two[1][:2], two[2]))


class WrongInputs(unittest.TestCase):
    def test_errors(self):
        told = image(bundle_with(CALLS))
        for thing in odd_values() + [(*told[:3], told[3] + "0", told[4])]:
            self.assertRaises(BadImage, chip_begin, thing, 0, 0)
            self.assertRaises(BadImage, chip_run, thing, 0, 0, -1)
        for thing in odd_values() + ["k", "zz"]:
            for call in (lambda: chip_begin(told, thing, 0), lambda: chip_run(told, thing, 0, -1)):
                with self.assertRaises(NoFunction) as caught:
                    call()
                self.assertEqual(repr(caught.exception.name), repr(thing))
        for thing in odd_values() + [[1, 2], ["1"], [None], {0: 1}, (1, True)]:
            if thing not in ([0], (0,)):
                self.assertRaises(BadArguments, chip_begin, told, "f", thing)
                self.assertRaises(BadArguments, chip_run, told, "f", thing, -1)
        for thing in odd_values() + [20001]:
            if thing is True or thing is False or not isinstance(thing, int) or not 0 <= thing <= 20000:
                self.assertRaises(BadMost, chip_run, told, "f", [1], thing)
        self.assertEqual(read_image(told)[0], bundle_with(CALLS))


if __name__ == "__main__":
    unittest.main()
