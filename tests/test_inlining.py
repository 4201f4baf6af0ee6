"""Points 61, 63, 64 and 65 for inline: functions in the place of their calls."""

import unittest

from code_tools import context, kinds_and_codes, numbers_code
from stopanywhere.forms import Scope, is_named, scope_of_codes
from stopanywhere.plain import Program, fits, told_run
from stopanywhere.runner import Codes
from stopanywhere.steps import is_step, refusal, stepped, steps_of
from stopanywhere.texts import read_unit
from stopanywhere.walks import walk

KINDS = [("choice", "c", (("v", ()), ("w", ("number", "c"))))]
SCOPE = Scope(KINDS, {
    "f": (("number",), "number"), "g": (("number", "c"), "number"), "h": ((), "number"), "i": ((), "c"), "j": (("number",), "number"),
})
AROUND = ("f", 3, {"a": ("number", ("of", "v2", -1, 4)), "b": ("c", ("make", "w", (("is", 2), ("of", "v9", 1, 0))))})
F = ("f", "number", {
    0: ((("v0", "number"),), (
        context("mark", ("f", 0, {"n": "v0"})), ("v2", "const", 1), ("v9", "make", "v", ()), context("still", AROUND), ("v3", "copy", "v2"),
        ("v5", "call", "g", ("v3", "v9")), ("v7", "plus", "v5", "v0"), context("mark", ("f", 4, {"x": "v5"})), (None, "show", "v7"),
    ), ("branch", "v7", 6, 2)),
    6: ((), (context("still", ("f", 4, {})), ("v8", "call", "h", ()), ("v10", "call", "j", ("v8",))), ("return", "v10")),
    2: ((), (context("still", ("f", 4, {})),), ("fail", "v5")),
})
G = ("g", "number", {
    0: ((("v4", "number"), ("v0", "c")), (context("mark", ("g", 0, {"p": "v4", "q": ("c", "v0")})), ("v1", "tag", "v0")), ("branch", "v1", 7, 3)),
    3: ((), (context("mark", ("g", 1, {"p": ("number", ("of", "v4", -1, 0))})), ("v2", "const", 6)), ("jump", 8, ("v2", "v4"))),
    7: ((), (context("still", ("g", 0, {}), ("k", 5, {"z": ("number", ("lost",))})), (None, "show", "v4")), ("try", "h", (), 5, 2)),
    5: ((("v10", "number"),), (context("mark", ("g", 2, {})),), ("return", "v10")), 2: ((("v11", "number"),), (context("mark", ("g", 3, {})),), ("fail", "v11")),
    8: ((("v6", "number"), ("v7", "number")), (context("back", ("g", 4, {"p": "v7"})),), ("return", "v6")),
})
H = ("h", "number", {0: ((), (context("mark", ("h", 0, {})), ("v0", "const", 3)), ("return", "v0"))})


def chain(name, many, end, rows=(), first=()):
    """Code of so many blocks in a row, numbered from 0, with these rows in the first one."""
    blocks = {number: ([], [], ("jump", number + 1, ())) for number in range(many)}
    blocks[0] = (list(first), list(rows), blocks[0][2])
    blocks[many - 1] = (blocks[many - 1][0], blocks[many - 1][1], end)
    return numbers_code(name, blocks)


class ByHand(unittest.TestCase):
    def test_the_new_code(self):
        """m is 7, n 11, g 8; so block k of g is 7 + k, place vj is v(j + 11), and the back stands in block 16."""
        codes = {"f": F, "g": G}
        self.assertTrue(is_named(F, SCOPE) and is_named(G, SCOPE))
        self.assertIsNone(refusal(SCOPE, codes, "f", ("inline", 0, 5)))
        found, paper = stepped(scope=SCOPE, codes=codes, name="f", step=("inline", 0, 5))
        told = ("f", "number", {
            0: (F[2][0][0], F[2][0][1][:5], ("jump", 7, ("v3", "v9"))),
            2: F[2][2], 6: F[2][6],
            7: ((("v15", "number"), ("v11", "c")), (context("mark", AROUND, ("g", 0, {"p": "v15", "q": ("c", "v11")})), ("v12", "tag", "v11")),
                ("branch", "v12", 14, 10)),
            9: ((("v22", "number"),), (context("mark", AROUND, ("g", 3, {})),), ("fail", "v22")),
            10: ((), (context("mark", AROUND, ("g", 1, {"p": ("number", ("of", "v15", -1, 0))})), ("v13", "const", 6)), ("jump", 15, ("v13", "v15"))),
            12: ((("v21", "number"),), (context("mark", AROUND, ("g", 2, {})),), ("jump", 16, ("v21",))),
            14: ((), (context("still", AROUND, ("g", 0, {}), ("k", 5, {"z": ("number", ("lost",))})), (None, "show", "v15")), ("try", "h", (), 12, 9)),
            15: ((("v17", "number"), ("v18", "number")), (context("back", AROUND, ("g", 4, {"p": "v18"})),), ("jump", 16, ("v17",))),
            16: ((("v5", "number"),), (context("back", AROUND), *F[2][0][1][6:]), F[2][0][2]),
        })
        self.assertEqual(found, told)
        self.assertEqual(list(found[2]), sorted(found[2]))
        self.assertTrue(is_named(found, SCOPE))
        self.the_paper(paper)

    def the_paper(self, paper):
        def same(*places):
            return {place: ("of", place, 1, 0) for place in places}

        def moved(*places):
            return {place: ("of", f"v{int(place[1:]) + 11}", 1, 0) for place in places}

        ahead = ("v0", "v2", "v3", "v9")
        rows = (("v2", "const", 1), ("v9", "make", "v", ()), ("v3", "copy", "v2"))
        inner = (*rows, ("v12", "tag", "v11"))
        seven = ("f", 0, 5, same(*ahead))
        behind = {**same("v0", "v2", "v3", "v5", "v7", "v9")}
        # Block 10, which gives v13, stands ahead of 15: there is no other way.
        self.assertEqual(paper[0], ((("f", 0, 0, same("v0")),), (), False))
        self.assertEqual(paper[7], ((("g", 0, 0, moved("v0", "v4")), seven), rows, False))
        self.assertEqual(paper[9], ((("g", 2, 0, moved("v0", "v1", "v11", "v4")), seven), inner, False))
        self.assertEqual(paper[10], ((("g", 3, 0, moved("v0", "v1", "v4")), seven), inner, False))
        self.assertEqual(paper[12], ((("g", 5, 0, moved("v0", "v1", "v10", "v4")), seven), inner, False))
        self.assertEqual(paper[14], ((("g", 7, 0, moved("v0", "v1", "v4")), seven), inner, False))
        self.assertEqual(paper[15], ((("g", 8, 0, moved("v0", "v1", "v2", "v4", "v6", "v7")), seven), (*inner, ("v13", "const", 6)), False))
        self.assertEqual(paper[16], ((("f", 0, 6, same(*ahead, "v5")),), inner, True))
        for number in (2, 6):
            self.assertEqual(paper[number], ((("f", number, 0, behind),), (*inner, ("v7", "plus", "v5", "v0")), False))
        self.assertEqual(list(paper), [0, 2, 6, 7, 9, 10, 12, 14, 15, 16])
        for anchor, _, _ in paper.values():
            for level in anchor:
                self.assertEqual(list(level[3]), sorted(level[3]))

    def test_a_call_at_the_end_of_a_block(self):
        found, paper = stepped(SCOPE, {"f": F, "h": H}, "f", ("inline", 6, 1))
        self.assertEqual(found[2][6], ((), (context("still", ("f", 4, {})),), ("jump", 7, ())))
        self.assertEqual(found[2][7], ((), (context("mark", ("f", 4, {}), ("h", 0, {})), ("v11", "const", 3)), ("jump", 8, ("v11",))))
        self.assertEqual(found[2][8], ((("v8", "number"),), (context("back", ("f", 4, {})), ("v10", "call", "j", ("v8",))), ("return", "v10")))
        self.assertEqual(sorted(found[2]), [0, 2, 6, 7, 8])
        self.assertEqual(paper[8][0][0][:3], ("f", 6, 2))
        last = ("f", "number", {0: ((("v0", "number"),), (context("mark", ("f", 0, {})), ("v3", "call", "h", ())), ("return", "v3"))})
        found, _ = stepped(SCOPE, {"f": last, "h": H}, "f", ("inline", 0, 1))
        self.assertEqual(found[2][2], ((("v3", "number"),), (context("back", ("f", 0, {})),), ("return", "v3")))

    def test_a_function_that_never_returns(self):
        fails = numbers_code("h", {0: ([], [("v0", "const", 3)], ("branch", "v0", 4, 1)), 4: ([], [], ("fail", "v0")), 1: ([], [], ("jump", 2, ())),
                                   2: ([], [], ("jump", 3, ())), 3: ([], [], ("jump", 2, ()))})
        found, paper = stepped(SCOPE, {"f": F, "h": fails}, "f", ("inline", 6, 1))
        self.assertEqual(sorted(found[2]), [0, 2, 6, 7, 8, 9, 10, 11])
        self.assertEqual(sorted(paper), sorted(found[2]))
        self.assertFalse(any(late for _, _, late in paper.values()))
        # What only the end behind the call led to goes.
        code = ("f", "number", {0: (F[2][0][0], F[2][0][1], ("branch", "v7", 6, 2)), 6: F[2][6], 2: F[2][2]})
        fails = ("g", "number", {0: (G[2][0][0], (context("mark", ("g", 0, {})),), ("fail", "v4"))})
        found, paper = stepped(SCOPE, {"f": code, "g": fails}, "f", ("inline", 0, 5))
        self.assertEqual(sorted(found[2]), [0, 7])
        self.assertEqual(found[2][7][2], ("fail", "v15"))
        self.assertTrue(is_named(found, SCOPE))

    def test_which_may_be_done(self):
        self.assertEqual(steps_of(SCOPE, {"f": F, "g": G, "h": H}, "f", "inline"), [("inline", 0, 5), ("inline", 6, 1)])
        self.assertEqual(steps_of(SCOPE, {"f": F, "h": H}, "f", "inline"), [("inline", 6, 1)])
        self.assertEqual(steps_of(SCOPE, {"g": G, "h": H}, "g", "inline"), [])
        for step, why in (
            (("inline", 0, 4), ("row",)), (("inline", 0, 9), ("row",)), (("inline", 0, 10), ("spot",)), (("inline", 1, 0), ("spot",)), (("inline", 6, 2), ("row",)),
            (("inline", 0, 0), ("row",)), (("inline", 2, 1), ("row",)),
        ):
            self.assertEqual(refusal(SCOPE, {"f": F, "g": G, "h": H}, "f", step), why, step)
        # A try is no row.
        self.assertEqual(refusal(SCOPE, {"g": G, "h": H}, "g", ("inline", 7, 2)), ("row",))

    def test_a_variant_that_is_called_as_a_function_is(self):
        scope = Scope([("choice", "c", (("h", ()),)), ("row", "g", "number")], {name: SCOPE.functions[name] for name in "fh"})
        code = ("f", "number", {0: ((("v0", "number"),), (context("mark", ("f", 0, {})), ("v1", "make", "h", ()), ("v2", "new", "g", "v0", "v0")), ("return", "v0"))})
        for at in (1, 2):
            self.assertEqual(refusal(scope, {"f": code, "h": H}, "f", ("inline", 0, at)), ("row",))

    def test_rings(self):
        def calls(name, *called):
            return numbers_code(name, {0: (["v0"], [(f"v{at + 1}", "call", other, ("v0",)) for at, other in enumerate(called)], ("return", "v0"))})

        scope = Scope([], {name: (("number",), "number") for name in "abcde"})
        codes = {"a": calls("a", "b", "a", "c", "d", "e"), "b": calls("b", "c"), "c": calls("c", "b"), "d": calls("d", "b"), "e": calls("e", "e")}
        for index, why in ((1, ("ring", ("b", "c", "b"))), (2, ("ring", ("a", "a"))), (3, ("ring", ("c", "b", "c"))), (4, None), (5, ("ring", ("e", "e")))):
            self.assertEqual(refusal(scope, codes, "a", ("inline", 0, index)), why)
        self.assertEqual(steps_of(scope, codes, "a", "inline"), [("inline", 0, 4)])
        self.assertEqual(steps_of(scope, codes, "d", "inline"), [])
        # Without c there is no ring of b.
        less = {name: codes[name] for name in "abd"}
        self.assertEqual(steps_of(scope, less, "a", "inline"), [("inline", 0, 1), ("inline", 0, 4)])


class Large(unittest.TestCase):
    SCOPE = Scope([], {"f": (("number",), "number"), "g": ((), "number")})

    def why(self, code, other):
        codes = {"f": code, "g": other}
        index = [row[1] for row in code[2][0][1]].index("call")
        told = refusal(self.SCOPE, codes, "f", ("inline", 0, index))
        self.assertEqual(is_step(self.SCOPE, codes, "f", ("inline", 0, index)), told is None)
        if told is None:
            found, _ = stepped(self.SCOPE, codes, "f", ("inline", 0, index))
            self.assertTrue(is_named(found, self.SCOPE))
        return told

    CALL = [("v1", "call", "g", ())]

    def test_blocks(self):
        code = chain("f", 60, ("return", "v1"), self.CALL, ["v0"])
        for many, why in ((58, None), (59, None), (60, ("large",))):
            self.assertEqual(self.why(code, chain("g", many, ("return", "v0"), [("v0", "const", 1)])), why)
        # Of a function that never returns nothing stays behind the call.
        for many, why in ((118, None), (119, None), (120, ("large",))):
            self.assertEqual(self.why(code, chain("g", many, ("fail", "v0"), [("v0", "const", 1)])), why)

    def test_rows(self):
        more = [(None, "show", "v0")] * 200
        code = chain("f", 2, ("return", "v1"), self.CALL + more, ["v0"])
        # 203 rows and 1 of the other function's mark; the call goes, and a back comes.
        for many, why in ((194, None), (195, None), (196, ("large",))):
            rows = [("v0", "const", 1)] + [(None, "show", "v0")] * many
            self.assertEqual(self.why(code, chain("g", 1, ("return", "v0"), rows)), why)
        for many, why in ((396, None), (397, None), (398, ("large",))):
            rows = [("v0", "const", 1)] + [(None, "show", "v0")] * many
            self.assertEqual(self.why(code, chain("g", 1, ("fail", "v0"), rows)), why)

    def test_places(self):
        numbers = [f"v{at}" for at in range(2, 150)]
        code = numbers_code("f", {
            0: (["v0"], self.CALL, ("jump", 1, ("v0",) * len(numbers))), 1: (numbers, [], ("return", "v1")),
        })
        # 150 places, and the block's parameters of the other function.
        for many, why in ((248, None), (249, None), (250, ("large",))):
            others = [f"v{at}" for at in range(1, many + 1)]
            other = numbers_code("g", {0: ([], [("v0", "const", 1)], ("jump", 1, ("v0",) * many)), 1: (others, [], ("return", "v0"))})
            self.assertEqual(self.why(code, other), why)
        # Of the first code v0 alone stays if nothing comes back: the call and what stood behind it go.
        for many, why in ((397, None), (398, None), (399, ("large",))):
            others = [f"v{at}" for at in range(1, many + 1)]
            other = numbers_code("g", {0: ([], [("v0", "const", 1)], ("jump", 1, ("v0",) * many)), 1: (others, [], ("fail", "v0"))})
            self.assertEqual(self.why(code, other), why)

    def test_numbers_of_places(self):
        for place, inner, why in ((5000, 4998, None), (5000, 4999, ("large",)), (9998, 0, None), (9999, 0, ("large",)), (9, 9989, None), (9, 9990, ("large",))):
            code = numbers_code("f", {0: (["v0"], [(f"v{place}", "call", "g", ())], ("return", "v0"))})
            other = numbers_code("g", {0: ([], [(f"v{inner}", "const", 1)], ("return", f"v{inner}"))})
            self.assertEqual(self.why(code, other), why, (place, inner))

    def test_numbers_of_blocks(self):
        for number, inner, end, why in (
            (5000, 4997, "return", None), (5000, 4998, "return", ("large",)), (9997, 0, "return", None), (9998, 0, "return", ("large",)),
            # Without a return there is no block behind.
            (5000, 4998, "fail", None), (5000, 4999, "fail", ("large",)), (9998, 0, "fail", None), (9999, 0, "fail", ("large",)),
        ):
            code = numbers_code("f", {0: (["v0"], self.CALL, ("jump", number, ())), number: ([], [], ("return", "v1"))})
            blocks = {0: ([], [("v0", "const", 1)], ("jump", inner, ())), inner: ([], [], (end, "v0"))}
            if inner == 0:
                blocks = {0: ([], [("v0", "const", 1)], (end, "v0"))}
            self.assertEqual(self.why(code, numbers_code("g", blocks)), why, (number, inner, end))

    def test_frames(self):
        for many, others, why in ((6, 6, None), (6, 7, ("large",)), (11, 1, None), (12, 1, ("large",)), (1, 11, None), (1, 12, ("large",))):
            frames = [("f", 0, {})] + [("k", at, {}) for at in range(many - 1)]
            inner = [("g", 0, {})] + [("k", at, {}) for at in range(others - 1)]
            code = ("f", "number", {0: ((("v0", "number"),), (context("mark", ("f", 0, {})), context("still", *frames), *self.CALL), ("return", "v1"))})
            other = ("g", "number", {0: ((), (context("mark", ("g", 0, {})), ("v0", "const", 1), context("back", *inner)), ("return", "v0"))})
            self.assertEqual(self.why(code, other), why)

    def test_large_code_that_gets_smaller(self):
        code = chain("f", 200, ("return", "v1"), self.CALL, ["v0"])
        self.assertIsNone(self.why(code, chain("g", 100, ("fail", "v0"), [("v0", "const", 1)])))
        self.assertEqual(self.why(code, chain("g", 1, ("return", "v0"), [("v0", "const", 1)])), ("large",))


class Runs(unittest.TestCase):
    """What runs show, and their moments, stay; as many events come."""

    def check(self, text, arguments):
        program = Program([read_unit(text)])
        kinds, codes = kinds_and_codes(program)
        scope = scope_of_codes(kinds, list(codes.values()))
        many = 0
        for name in sorted(codes):
            steps = steps_of(scope, codes, name, "inline")
            while steps and many < 12:
                codes = {**codes, name: stepped(scope, codes, name, steps[-1])[0]}
                many += 1
                steps = steps_of(scope, codes, name, "inline")
        self.assertGreater(many, 0)
        runner = Codes(kinds, list(codes.values()))
        for number in arguments:
            outputs, end, moments = walk(runner, "f", [number], 3000)
            told = told_run(program, "f", [number], 2000)
            self.assertEqual((outputs, end), told[:2])
            self.assertEqual(moments, told[2])
            self.assertTrue(all(fits(one, other) for one, other in zip(moments, told[2])))

    def test_in_loops_and_tries(self):
        self.check(
            "unit u function h(n) { if n == 3 { fail 8 } show n return 12 over n } "
            "function g(n) { let a = 0 while a < n { set a = a + h(n - a) } return a } "
            "function f(n) { let b = 0 while b < 3 { set b = b + 1 try c = g(n + b) else d: h(d) show c + h(b + 3) } return g(b - n) }",
            range(-2, 5),
        )

    def test_at_the_beginning_and_at_the_end_of_a_block(self):
        self.check("unit u function g(n) { return n + 1 } function f(n) { show g(n) if g(n) < 3 { return g(g(n)) } return g(n) }", range(4))

    def test_functions_that_fail(self):
        self.check("unit u function h(n) { fail n } function g(n) { if n < 2 { return h(n) } return n } "
                   "function i(n) { return g(n) + 1 } function f(n) { try a = i(n) else b: b - 5 show a return i(n - 1) }", range(5))

    def test_boxes(self):
        self.check(
            "unit u choice c = v | w(number, c) row r of c function g(n, y) { if n == 0 { return y } return make w(n, y) } "
            "function h(x, n) { put r(x, n) = g(n, at r(x, 0)) return x } "
            "function f(n) { let x = new r(3, g(0, make v)) let y = h(h(x, 1), n) match at r(y, n) { v { return 0 } w(m, z) { return m } } }", range(-1, 4),
        )


if __name__ == "__main__":
    unittest.main()
