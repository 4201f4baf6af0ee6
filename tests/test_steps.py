"""Points 61, 63 and 64 for all words but inline: steps by hand, new codes and papers exactly, and refusals."""

import unittest

from code_tools import context, numbers_code
from odd_values import as_bool, as_list, changed, odd_values
from stopanywhere.errors import BadCodes, BadScope, BadStep, BadWord, NoFunction, Refused
from stopanywhere.forms import Scope, is_named
from stopanywhere.steps import is_step, refusal, stepped, steps_of

KINDS = [("choice", "c", (("v", ()), ("w", ("number", "c")))), ("row", "r", "number"), ("choice", "d", (("full", ("r",)), ("bare", ())))]
SCOPE = Scope(KINDS, {"f": (("number", "number"), "number"), "g": (("number",), "number"), "h": ((), "number")})
WORDS = ("fold", "same", "alike", "twins", "spare", "dead", "hoist", "merge", "inline")


def with_rows(code, number, rows):
    name, result, blocks = code
    return name, result, {**blocks, number: (blocks[number][0], tuple(rows), blocks[number][2])}


class Case(unittest.TestCase):
    def refused(self, code, step, why, scope=SCOPE, codes=None):
        codes = {code[0]: code} if codes is None else codes
        self.assertEqual(refusal(scope, codes, code[0], step), why, step)
        self.assertFalse(is_step(scope, codes, code[0], step))
        with self.assertRaises(Refused) as caught:
            stepped(scope, codes, code[0], step)
        self.assertEqual(caught.exception.why, why)
        return why

    def done(self, code, step, told, scope=SCOPE, codes=None):
        """Whether a step may be done and makes just this code; its paper."""
        codes = {code[0]: code} if codes is None else codes
        self.assertTrue(is_named(code, scope))
        self.assertIsNone(refusal(scope, codes, code[0], step))
        self.assertTrue(is_step(scope, codes, code[0], step))
        self.assertIn(step, steps_of(scope, codes, code[0], step[0]))
        found, paper = stepped(scope, codes, code[0], step)
        self.assertEqual(found, told)
        self.assertEqual(list(found[2]), sorted(found[2]))
        self.assertTrue(is_named(found, scope))
        self.assertEqual(list(paper), sorted(found[2]))
        return paper

    def plain_paper(self, paper, name, equations, facts):
        """Whether a paper's blocks stand where they stood, with these equations (a place, or a formula) and facts."""
        self.assertEqual(paper, {
            number: (((name, number, 0, {
                place: ("of", told, 1, 0) if isinstance(told, str) else told for place, told in equations[number].items()
            }),), tuple(facts.get(number, ())), False)
            for number in equations
        })
        for anchor, _, _ in paper.values():
            self.assertEqual(list(anchor[0][3]), sorted(anchor[0][3]))


def itself(*places):
    return {place: place for place in places}


MARK = (None, "mark", (("f", 0, ()),))
STILL = (None, "still", (("f", 0, ()),))


class TheExample(Case):
    def test_by_hand(self):
        def code(rows, end, *more):
            return "f", "number", {0: ((("v0", "number"), ("v9", "number")), (
                context("mark", ("f", 0, {"n": "v0"})), ("v1", "const", 2), ("v2", "plus", "v0", "v1"), *rows, *more,
            ), ("return", end))}

        three = ("v3", "plus", "v1", "v0")
        first = code([three, (None, "show", "v3")], "v2")
        paper = self.done(first, ("same", 0, 3, "v2"), code([(None, "show", "v2")], "v2"))
        self.plain_paper(paper, "f", {0: itself("v0", "v9")}, {})
        self.refused(first, ("same", 0, 2, "v3"), ("way", ()))
        self.refused(first, ("dead", 0, 2), ("read", (0, 5)))
        told = ("number", ("of", "v3", -1, 4))
        behind = ("number", ("of", "v0", -1, 2))
        unread = code([three], "v2", context("still", ("f", 0, {"x": told})))
        self.done(unread, ("dead", 0, 3), code([], "v2", context("still", ("f", 0, {"x": behind}))))


class Fold(Case):
    def code(self, rows, end=("return", "v0"), *others):
        return "f", "number", {0: ((("v0", "number"), ("v1", "number")), (MARK, *rows), end), **dict(others)}

    def test_rows(self):
        rows = [("v2", "const", 3), ("v3", "plus", "v2", "v2"), ("v4", "minus", "v0", "v0"), ("v5", "plus", "v0", "v1"), ("v6", "copy", "v2"),
                ("v7", "less", "v2", "v3"), ("v8", "make", "v", ()), ("v9", "tag", "v8"), ("v10", "over", "v3", "v2"), (None, "show", "v9")]
        code = self.code(rows)
        for at, number in ((2, 6), (3, 0), (5, 3), (6, 1), (8, 0)):
            told = rows[:at - 1] + [(rows[at - 1][0], "const", number)] + rows[at:]
            paper = self.done(code, ("fold", 0, at), self.code(told))
            self.plain_paper(paper, "f", {0: itself("v0", "v1")}, {})
        for at, why in (
            (0, ("row",)), (1, ("row",)), (4, ("unlike",)), (7, ("row",)), (9, ("row",)), (10, ("row",)), (11, ("row",)), (12, ("spot",)),
        ):
            self.refused(code, ("fold", 0, at), why)
        self.refused(code, ("fold", 1, 0), ("spot",))
        self.assertEqual(steps_of(SCOPE, {"f": code}, "f", "fold"), [("fold", 0, at) for at in (2, 3, 5, 6, 8)])

    def test_a_place_of_another_kind(self):
        # Part 1 of w of a box of v is nothing, so 0; but its kind is c.
        rows = [("v2", "make", "v", ()), ("v3", "part", "w", 1, "v2"), ("v4", "part", "w", 0, "v2"), ("v5", "tag", "v3")]
        code = self.code(rows)
        self.refused(code, ("fold", 0, 2), ("row",))
        self.refused(code, ("fold", 0, 1), ("row",))
        self.done(code, ("fold", 0, 3), self.code([*rows[:2], ("v4", "const", 0), rows[3]]))
        self.done(code, ("fold", 0, 4), self.code([*rows[:3], ("v5", "const", 0)]))

    def test_branches(self):
        for number, told, gone in ((7, 5, 3), (-1, 5, 3), (0, 3, 5)):
            rows = [("v2", "const", number), ("v3", "plus", "v0", "v2"), ("v4", "minus", "v3", "v0")]
            blocks = {
                5: ((), (MARK, ("v5", "copy", "v4")), ("jump", 6, ("v5",))), 3: ((), (STILL, ("v7", "not", "v4")), ("jump", 9, ())),
                9: ((), (MARK,), ("jump", 6, ("v7",))), 6: ((("v6", "number"),), (MARK,), ("return", "v6")),
            }
            code = self.code(rows, ("branch", "v4", 5, 3), *blocks.items())
            left = {key: blocks[key] for key in blocks if key != gone and (key != 9 or gone == 5)}
            paper = self.done(code, ("fold", 0, 4), self.code(rows, ("jump", told, ()), *left.items()))
            ahead = itself("v0", "v1", "v2", "v3", "v4")
            equations = {0: itself("v0", "v1"), 6: {**ahead, **itself("v6")}, told: ahead}
            # Behind the new code's jump more blocks stand ahead of 6; the old code held no more there than it did.
            facts = {6: [*rows, *[row for row in blocks[told][1] if row[0]]], told: rows}
            if gone == 5:
                equations[9] = {**ahead, **itself("v7")}
                facts[9] = [*rows, blocks[3][1][1]]
            self.plain_paper(paper, "f", equations, facts)
        code = self.code([("v2", "plus", "v0", "v1")], ("branch", "v2", 5, 3), (5, ((), (MARK,), ("fail", "v0"))), (3, ((), (MARK,), ("fail", "v0"))))
        self.refused(code, ("fold", 0, 2), ("unlike",))
        self.refused(code, ("fold", 5, 1), ("row",))
        self.refused(code, ("fold", 5, 2), ("spot",))


class Same(Case):
    CODE = ("f", "number", {
        0: ((("v0", "number"), ("v1", "number")), (
            MARK, ("v2", "plus", "v0", "v1"), ("v3", "make", "v", ()), ("v4", "make", "v", ()), ("v5", "plus", "v1", "v0"),
            context("still", ("f", 0, {"a": ("number", ("of", "v5", -1, 3)), "b": ("c", ("make", "w", (("of", "v5", 1, 1), ("of", "v4", 1, 0)))),
                                       "z": ("number", ("lost",))})),
            ("v6", "times", "v5", "v5"), (None, "show", "v5"), ("v18", "const", 0), ("v19", "part", "w", 1, "v3"),
        ), ("branch", "v5", 7, 3)),
        7: ((), (STILL, ("v8", "plus", "v0", "v1"), ("v20", "copy", "v8")), ("jump", 4, ("v8", "v8"))),
        3: ((), (STILL, ("v9", "plus", "v5", "v18"), ("v10", "call", "g", ("v5",))), ("jump", 4, ("v5", "v9"))),
        4: ((("v11", "number"), ("v12", "number")), (MARK, ("v13", "plus", "v0", "v1"), ("v14", "copy", "v11")), ("return", "v13")),
    })

    def test_replaced_everywhere(self):
        name, result, blocks = self.CODE
        told = {
            0: (blocks[0][0], (
                *blocks[0][1][:4], context("still", ("f", 0, {
                    "a": ("number", ("of", "v2", -1, 3)), "b": ("c", ("make", "w", (("of", "v2", 1, 1), ("of", "v4", 1, 0)))),
                    "z": ("number", ("lost",))})),
                ("v6", "times", "v2", "v2"), (None, "show", "v2"), *blocks[0][1][8:],
            ), ("branch", "v2", 7, 3)),
            7: blocks[7], 4: blocks[4],
            3: ((), (STILL, ("v9", "plus", "v2", "v18"), ("v10", "call", "g", ("v2",))), ("jump", 4, ("v2", "v9"))),
        }
        paper = self.done(self.CODE, ("same", 0, 4, "v2"), (name, result, told))
        ahead = {**itself("v0", "v1", "v18", "v19", "v2", "v3", "v4", "v6"), "v5": "v2"}
        rows = [row for row in told[0][1] if row[1] not in ("mark", "still", "show")]
        self.plain_paper(
            paper, "f", {0: itself("v0", "v1"), 3: ahead, 4: {**ahead, **itself("v11", "v12")}, 7: ahead}, {3: rows, 4: rows, 7: rows},
        )

    def test_which_may_be_done(self):
        for step in (("same", 0, 3, "v3"), ("same", 7, 1, "v2"), ("same", 7, 2, "v8"), ("same", 3, 1, "v5"), ("same", 4, 1, "v5"), ("same", 4, 2, "v11")):
            self.assertTrue(is_step(scope=SCOPE, codes={"f": self.CODE}, name="f", thing=step), step)
        self.assertEqual(steps_of(scope=SCOPE, codes={"f": self.CODE}, name="f", word="same"), [
            ("same", 0, 3, "v3"), ("same", 0, 4, "v2"), ("same", 3, 1, "v2"), ("same", 3, 1, "v5"), ("same", 4, 1, "v2"), ("same", 4, 1, "v5"),
            ("same", 4, 2, "v11"), ("same", 7, 1, "v2"), ("same", 7, 1, "v5"), ("same", 7, 2, "v2"), ("same", 7, 2, "v5"), ("same", 7, 2, "v8"),
        ])

    def test_refusals(self):
        for step, why in (
            (("same", 9, 0, "v2"), ("spot",)), (("same", 0, 11, "v2"), ("spot",)), (("same", 0, 4, "v99"), ("spot",)),
            (("same", 0, 10, "v2"), ("row",)), (("same", 0, 0, "v2"), ("row",)), (("same", 0, 7, "v2"), ("row",)), (("same", 3, 2, "v2"), ("row",)),
            (("same", 0, 4, "v5"), ("row",)), (("same", 0, 1, "v5"), ("way", ())), (("same", 0, 2, "v4"), ("way", ())), (("same", 0, 1, "v6"), ("way", ())),
            (("same", 4, 1, "v8"), ("way", (0, 3, 4))), (("same", 4, 1, "v9"), ("way", (0, 7, 4))), (("same", 0, 1, "v13"), ("way", (0,))),
            (("same", 7, 1, "v9"), ("way", (0, 7))), (("same", 0, 4, "v3"), ("kind",)), (("same", 0, 3, "v2"), ("kind",)), (("same", 0, 4, "v0"), ("unlike",)),
            (("same", 4, 2, "v12"), ("unlike",)), (("same", 0, 9, "v18"), ("kind",)), (("same", 0, 9, "v3"), ("unlike",)),
            # Where several hold, the first: a place of another kind and term that does not stand ahead.
            (("same", 0, 2, "v9"), ("way", (0,))), (("same", 4, 1, "v10"), ("way", (0, 7, 4))),
        ):
            self.refused(self.CODE, step, why)


class Alike(Case):
    def code(self, four, third, loop=("v2", "v12"), rest=("return", "v2")):
        """4 is led to from 0, 3 and its own loop 6, with these arguments."""
        return "f", "number", {
            0: ((("v0", "number"), ("v1", "number")), (MARK, ("v2", "const", 1)), ("branch", "v0", 5, 3)),
            5: ((), (STILL,), ("jump", 4, four)), 3: ((), (STILL,), ("jump", 4, third)),
            4: ((("v11", "number"), ("v12", "number")), (context("mark", ("f", 1, {"x": "v12", "y": ("number", ("of", "v11", -1, 2))})),),
                ("branch", "v11", 6, 8)),
            6: ((), (STILL, (None, "show", "v12")), ("jump", 4, loop)), 8: ((), (MARK,), rest),
        }

    def test_done(self):
        code = self.code(("v0", "v1"), ("v0", "v1"), ("v11", "v12"), ("return", "v11"))
        name, result, blocks = code
        told = {
            **blocks, 5: ((), (STILL,), ("jump", 4, ("v1",))), 3: ((), (STILL,), ("jump", 4, ("v1",))),
            4: ((("v12", "number"),), (context("mark", ("f", 1, {"x": "v12", "y": ("number", ("of", "v0", -1, 2))})),), ("branch", "v0", 6, 8)),
            6: ((), (STILL, (None, "show", "v12")), ("jump", 4, ("v12",))), 8: ((), (MARK,), ("return", "v0")),
        }
        paper = self.done(code, ("alike", 4, 0), (name, result, told))
        ahead, row = itself("v0", "v1", "v2"), ("v2", "const", 1)
        inner = {**ahead, "v11": "v0", "v12": "v12"}
        self.plain_paper(paper, "f", {0: itself("v0", "v1"), 3: ahead, 5: ahead, 4: inner, 6: inner, 8: inner}, {at: [row] for at in (3, 4, 5, 6, 8)})
        self.done(code, ("alike", 4, 1), (name, result, {
            **blocks, 5: ((), (STILL,), ("jump", 4, ("v0",))), 3: ((), (STILL,), ("jump", 4, ("v0",))),
            4: ((("v11", "number"),), (context("mark", ("f", 1, {"x": "v1", "y": ("number", ("of", "v11", -1, 2))})),), ("branch", "v11", 6, 8)),
            6: ((), (STILL, (None, "show", "v1")), ("jump", 4, ("v11",))),
        }))
        self.assertEqual(steps_of(SCOPE, {"f": code}, "f", "alike"), [("alike", 4, 0), ("alike", 4, 1)])

    def test_a_loop_that_gives_the_place_itself(self):
        code = self.code(("v0", "v1"), ("v0", "v1"), ("v0", "v1"))
        self.assertTrue(is_step(SCOPE, {"f": code}, "f", ("alike", 4, 0)))
        self.assertTrue(is_step(SCOPE, {"f": code}, "f", ("alike", 4, 1)))

    def test_refusals(self):
        code = self.code(("v0", "v1"), ("v2", "v1"), ("v11", "v11"))
        # Block 3 gives v2, so that is the place; 5 gives something else. v11 of the loop is the other parameter.
        self.refused(code, ("alike", 4, 0), ("gives", 5))
        self.refused(code, ("alike", 4, 1), ("gives", 6))
        self.refused(self.code(("v1", "v1"), ("v1", "v1"), ("v2", "v12")), ("alike", 4, 0), ("gives", 6))
        for step, why in (
            (("alike", 9, 0), ("spot",)), (("alike", 4, 2), ("spot",)), (("alike", 6, 0), ("spot",)), (("alike", 0, 0), ("row",)), (("alike", 0, 2), ("spot",)),
        ):
            self.refused(code, step, why)
        tried = numbers_code("g", {0: (["v0"], [], ("try", "g", ("v0",), 1, 2)), 1: (["v1"], [], ("return", "v1")), 2: (["v2"], [], ("fail", "v2"))})
        for block in (1, 2):
            self.refused(tried, ("alike", block, 0), ("row",))
            self.refused(tried, ("spare", block, 0), ("row",))
            self.refused(tried, ("alike", block, 1), ("spot",))


class Twins(Case):
    def code(self, *ends, kinds=("number", "number", "number")):
        """5, 3 and 6 lead to 4 with these arguments."""
        parameters = tuple(zip(("v11", "v12", "v13"), kinds))
        return "f", "number", {
            0: ((("v0", "number"), ("v1", "number")), (MARK, ("v2", "make", "v", ())), ("branch", "v0", 5, 3)),
            5: ((), (STILL,), ("jump", 4, ends[0])), 3: ((), (STILL,), ("jump", 4, ends[1])),
            4: (parameters, (context("mark", ("f", 1, {"x": "v11", "y": ("number", ("of", "v12", -1, 2))})), ("v14", "minus", "v11", "v12")),
                ("branch", "v12", 6, 8)),
            6: ((), (STILL,), ("jump", 4, ends[2])), 8: ((), (MARK,), ("return", "v12")),
        }

    def test_done(self):
        for loop, less in (
            (("v11", "v12", "v13"), ("v11", "v13")), (("v12", "v11", "v13"), ("v11", "v13")), (("v14", "v14", "v0"), ("v14", "v0")),
            (("v12", "v12", "v1"), ("v11", "v1")), (("v11", "v11", "v12"), ("v11", "v11")),
        ):
            code = self.code(("v0", "v0", "v1"), ("v1", "v1", "v1"), loop)
            name, result, blocks = code
            paper = self.done(code, ("twins", 4, 0, 1), (name, result, {
                **blocks, 5: ((), (STILL,), ("jump", 4, ("v0", "v1"))), 3: ((), (STILL,), ("jump", 4, ("v1", "v1"))),
                4: ((("v11", "number"), ("v13", "number")), (
                    context("mark", ("f", 1, {"x": "v11", "y": ("number", ("of", "v11", -1, 2))})), ("v14", "minus", "v11", "v11"),
                ), ("branch", "v11", 6, 8)),
                6: ((), (STILL,), ("jump", 4, less)), 8: ((), (MARK,), ("return", "v11")),
            }))
            ahead = itself("v0", "v1", "v2")
            inner = {**ahead, "v11": "v11", "v12": "v11", "v13": "v13"}
            row, more = ("v2", "make", "v", ()), ("v14", "minus", "v11", "v11")
            behind = {**inner, "v14": "v14"}
            self.plain_paper(paper, "f", {0: itself("v0", "v1"), 3: ahead, 5: ahead, 4: inner, 6: behind, 8: behind},
                             {3: [row], 4: [row], 5: [row], 6: [row, more], 8: [row, more]})

    def test_refusals(self):
        code = self.code(("v0", "v0", "v1"), ("v1", "v0", "v1"), ("v14", "v11", "v12"))
        for step, why in (
            (("twins", 4, 0, 1), ("gives", 3)), (("twins", 4, 0, 2), ("gives", 5)), (("twins", 4, 1, 2), ("gives", 3)), (("twins", 4, 1, 0), ("row",)),
            (("twins", 4, 1, 1), ("row",)), (("twins", 4, 0, 3), ("spot",)), (("twins", 4, 3, 0), ("spot",)), (("twins", 7, 0, 1), ("spot",)),
            (("twins", 0, 0, 1), ("row",)), (("twins", 8, 0, 1), ("spot",)),
        ):
            self.refused(code, step, why)
        # Other parameters of the block, or one of both, are no twins.
        for loop in (("v12", "v13", "v11"), ("v13", "v11", "v11"), ("v11", "v14", "v11")):
            self.refused(self.code(("v0", "v0", "v1"), ("v0", "v0", "v1"), loop), ("twins", 4, 0, 1), ("gives", 6))
        other = self.code(("v0", "v0", "v2"), ("v0", "v1", "v2"), ("v0", "v0", "v13"), kinds=("number", "number", "c"))
        self.refused(other, ("twins", 4, 0, 2), ("kind",))
        self.refused(other, ("twins", 4, 2, 0), ("row",))
        self.refused(other, ("twins", 4, 0, 1), ("gives", 3))
        self.assertEqual(steps_of(SCOPE, {"f": other}, "f", "twins"), [])


class Spare(Case):
    def code(self, loop, *rows):
        return "f", "number", {
            0: ((("v0", "number"), ("v1", "number")), (MARK,), ("jump", 4, ("v0", "v1"))),
            4: ((("v11", "number"), ("v12", "number")), (
                context("mark", ("f", 1, {"a": "v11", "b": ("number", ("of", "v11", -1, 2)), "d": ("c", ("make", "w", (("of", "v12", 1, 0), ("lost",)))),
                                          "e": ("c", ("make", "w", (("is", 1), ("make", "w", (("of", "v11", 1, 0), ("make", "v", ()))))))})),
                ("v13", "plus", "v12", "v12"), *rows), ("branch", "v13", 6, 8)),
            6: ((), (STILL,), ("jump", 4, loop)), 8: ((), (context("still", ("f", 1, {"a": "v11", "b": "v12"})),), ("return", "v12")),
        }

    def test_done(self):
        code = self.code(("v11", "v12"))
        name, result, blocks = code
        lost = ("number", ("lost",))
        paper = self.done(code, ("spare", 4, 0), (name, result, {
            0: (blocks[0][0], (MARK,), ("jump", 4, ("v1",))),
            4: ((("v12", "number"),), (
                context("mark", ("f", 1, {"a": lost, "b": lost, "d": ("c", ("make", "w", (("of", "v12", 1, 0), ("lost",)))), "e": ("c", ("lost",))})),
                ("v13", "plus", "v12", "v12")), blocks[4][2]),
            6: ((), (STILL,), ("jump", 4, ("v12",))), 8: ((), (context("still", ("f", 1, {"a": lost, "b": "v12"})),), ("return", "v12")),
        }))
        ahead = itself("v0", "v1", "v12")
        row = ("v13", "plus", "v12", "v12")
        behind = {**ahead, "v13": "v13"}
        self.plain_paper(paper, "f", {0: itself("v0", "v1"), 4: ahead, 6: behind, 8: behind}, {6: [row], 8: [row]})
        self.assertEqual(steps_of(SCOPE, {"f": code}, "f", "spare"), [("spare", 4, 0)])

    def test_refusals(self):
        for code, step, why in (
            (self.code(("v11", "v12")), ("spare", 4, 1), ("read", (4, 1))), (self.code(("v11", "v11")), ("spare", 4, 0), ("read", (6, 1))),
            (self.code(("v12", "v11")), ("spare", 4, 0), ("read", (6, 1))), (self.code(("v0", "v0"), (None, "show", "v11")), ("spare", 4, 0), ("read", (4, 2))),
            (self.code(("v11", "v12")), ("spare", 4, 2), ("spot",)), (self.code(("v11", "v12")), ("spare", 5, 0), ("spot",)),
            (self.code(("v11", "v12")), ("spare", 0, 0), ("row",)), (self.code(("v11", "v12")), ("spare", 8, 0), ("spot",)),
        ):
            self.refused(code, step, why)
        self.assertTrue(is_step(SCOPE, {"f": self.code(("v0", "v12"))}, "f", ("spare", 4, 0)))

    def test_a_row_that_reads_ahead_of_the_end(self):
        code = self.code(("v11", "v12"))
        name, result, blocks = code
        code = (name, result, {**blocks, 6: ((), (STILL, (None, "show", "v11")), blocks[6][2])})
        self.refused(code, ("spare", 4, 0), ("read", (6, 1)))

    def test_a_parameter_that_another_block_takes(self):
        code = ("f", "number", {
            0: ((("v0", "number"), ("v1", "number")), (MARK,), ("jump", 4, ("v0",))), 4: ((("v2", "number"),), (MARK,), ("jump", 5, ("v2",))),
            5: ((("v3", "number"),), (MARK,), ("return", "v0")),
        })
        self.refused(code, ("spare", 4, 0), ("read", (4, 1)))
        self.assertTrue(is_step(SCOPE, {"f": code}, "f", ("spare", 5, 0)))


class Dead(Case):
    def code(self, row, told, *ahead):
        return "f", "number", {
            0: ((("v0", "number"), ("v1", "number")), (MARK, ("v2", "const", 5), ("v3", "const", -1), ("v4", "make", "v", ()), *ahead, row,
                                                      context("still", ("f", 0, told))), ("branch", "v0", 7, 3)),
            7: ((), (context("mark", ("f", 1, told)),), ("return", "v1")), 3: ((), (STILL,), ("return", "v1")),
        }

    def check(self, row, told, other, story, *ahead):
        """A dead row goes, the formulas are told otherwise, and the paper's equations tell its story."""
        code = self.code(row, told, *ahead)
        at = code[2][0][1].index(row)
        less = self.code(row, other, *ahead)
        rows = less[2][0][1]
        paper = self.done(code, ("dead", 0, at), with_rows(less, 0, rows[:at] + rows[at + 1:]))
        held = itself("v0", "v1", "v2", "v3", "v4", *[inner[0] for inner in ahead])
        if story is not None:
            held[row[0]] = story
        facts = [inner for inner in rows[:at] + rows[at + 1:] if inner[1] not in ("mark", "still", "over")]
        self.plain_paper(paper, "f", {0: itself("v0", "v1"), 3: held, 7: held}, {3: facts, 7: facts})

    def test_stories(self):
        for row, formulas, story in (
            (("v9", "const", 7), [("is", 7), ("is", -7), ("is", 10), ("is", -9)], ("is", 7)),
            (("v9", "copy", "v1"), [("of", "v1", 1, 0), ("of", "v1", -1, 0), ("of", "v1", 1, 3), ("of", "v1", -1, -2)], ("of", "v1", 1, 0)),
            (("v9", "plus", "v2", "v1"), [("of", "v1", 1, 5), ("of", "v1", -1, -5), ("of", "v1", 1, 8), ("of", "v1", -1, -7)], ("of", "v1", 1, 5)),
            (("v9", "minus", "v2", "v1"), [("of", "v1", -1, 5), ("of", "v1", 1, -5), ("of", "v1", -1, 8), ("of", "v1", 1, -7)], ("of", "v1", -1, 5)),
            (("v9", "times", "v3", "v1"), [("of", "v1", -1, 0), ("of", "v1", 1, 0), ("of", "v1", -1, 3), ("of", "v1", 1, -2)], ("of", "v1", -1, 0)),
            (("v9", "plus", "v0", "v1"), [("lost",)] * 4, None), (("v9", "less", "v0", "v1"), [("lost",)] * 4, None), (("v9", "not", "v0"), [("lost",)] * 4, None),
        ):
            told = {
                "a": "v9", "b": ("number", ("of", "v9", -1, 0)), "c": ("number", ("of", "v9", 1, 3)), "d": ("number", ("of", "v9", -1, -2)),
                "e": "v0", "g": ("number", ("lost",)), "h": ("c", ("make", "w", (("of", "v9", 1, 0), ("of", "v4", 1, 0)))),
                "i": ("c", ("make", "w", (("of", "v0", 1, 0), ("lost",)))), "j": ("c", ("make", "w", (("of", "v9", -1, 0), ("lost",)))),
            }
            other = {
                **told, **{name: ("number", formula) for name, formula in zip("abcd", formulas)}, "j": ("c", ("lost",)),
                "h": ("c", ("lost",) if story is None else ("make", "w", (formulas[0], ("of", "v4", 1, 0)))),
            }
            self.check(row, told, other, story)

    def test_makes(self):
        row = ("v9", "make", "w", ("v0", "v4"))
        story = ("make", "w", (("of", "v0", 1, 0), ("of", "v4", 1, 0)))
        deep = ("make", "w", (("is", 2), ("make", "w", (("is", 1), ("of", "v9", 1, 0)))))
        self.check(row, {"a": ("c", "v9"), "b": ("c", deep)}, {
            "a": ("c", story), "b": ("c", ("make", "w", (("is", 2), ("make", "w", (("is", 1), story))))),
        }, story)
        row = ("v9", "part", "w", 1, "v4")
        told = {"a": ("c", "v9"), "b": ("c", deep), "d": ("c", ("make", "w", (("is", 2), ("of", "v4", 1, 0))))}
        self.check(row, told, {**told, "a": ("c", ("lost",)), "b": ("c", ("lost",))}, None)
        self.check(("v9", "copy", "v4"), {"a": ("c", "v9")}, {"a": ("c", "v4")}, ("of", "v4", 1, 0))

    def test_stills(self):
        rows = (MARK, STILL, STILL, ("v2", "const", 1), STILL, context("back", ("f", 3, {})), STILL)
        code = ("f", "number", {0: ((("v0", "number"), ("v1", "number")), rows, ("jump", 1, ())),
                                1: ((), (STILL, MARK, (None, "show", "v2"), STILL, (None, "show", "v2"), STILL), ("return", "v2"))})
        for at, why in ((0, ("row",)), (2, ("row",)), (3, ("read", (1, 2))), (5, ("row",)), (6, ("row",)), (7, ("row",)), (8, ("spot",))):
            self.refused(code, ("dead", 0, at), why)
        for at in (1, 4):
            paper = self.done(code, ("dead", 0, at), with_rows(code, 0, rows[:at] + rows[at + 1:]))
            self.plain_paper(paper, "f", {0: itself("v0", "v1"), 1: itself("v0", "v1", "v2")}, {1: [("v2", "const", 1)]})
        self.done(code, ("dead", 1, 0), with_rows(code, 1, code[2][1][1][1:]))
        for at in (3, 5):
            self.refused(code, ("dead", 1, at), ("row",))
        last = with_rows(code, 1, (MARK, STILL, STILL))
        self.done(last, ("dead", 1, 1), with_rows(last, 1, (MARK, STILL)))
        self.refused(last, ("dead", 1, 2), ("row",))
        self.assertEqual(steps_of(SCOPE, {"f": code}, "f", "dead"), [("dead", 0, 1), ("dead", 0, 4), ("dead", 1, 0)])

    def test_refusals(self):
        code = ("f", "number", {
            0: ((("v0", "number"), ("v1", "number")), (MARK, ("v2", "const", 1), ("v3", "over", "v0", "v2"), ("v4", "copy", "v2"), (None, "show", "v0")),
                ("jump", 7, ())),
            7: ((), (context("still", ("f", 0, {"a": "v4"})),), ("jump", 2, ("v4",))), 2: ((("v6", "number"),), (MARK,), ("return", "v2")),
        })
        for step, why in (
            (("dead", 0, 1), ("read", (0, 2))), (("dead", 0, 3), ("read", (7, 1))), (("dead", 0, 2), ("row",)), (("dead", 0, 4), ("row",)),
            (("dead", 0, 5), ("row",)), (("dead", 0, 6), ("spot",)), (("dead", 1, 0), ("spot",)), (("dead", 7, 0), ("row",)),
        ):
            self.refused(code, step, why)


class Hoist(Case):
    CODE = ("f", "number", {
        0: ((("v0", "number"), ("v1", "number")), (MARK, ("v2", "const", 1)), ("branch", "v0", 5, 3)),
        5: ((), (STILL, ("v3", "over", "v0", "v1")), ("jump", 4, ("v3",))), 3: ((), (STILL, ("v4", "copy", "v1")), ("jump", 4, ("v4",))),
        4: ((("v5", "number"),), (MARK, ("v6", "plus", "v0", "v2"), ("v7", "plus", "v5", "v0")), ("branch", "v6", 6, 8)),
        6: ((), (STILL, (None, "show", "v7"), ("v8", "times", "v5", "v6"), ("v9", "minus", "v8", "v0"), ("v10", "make", "v", ())), ("jump", 4, ("v9",))),
        8: ((), (MARK,), ("return", "v7")),
    })

    def test_done(self):
        name, result, blocks = self.CODE
        told = {
            **blocks, 0: (blocks[0][0], (*blocks[0][1], blocks[4][1][1]), blocks[0][2]),
            4: (blocks[4][0], (MARK, blocks[4][1][2]), blocks[4][2]),
        }
        paper = self.done(self.CODE, ("hoist", 4, 1, 0), (name, result, told))
        ahead = itself("v0", "v1", "v2")
        rows = [("v2", "const", 1), ("v6", "plus", "v0", "v2")]
        inner, more = {**ahead, "v5": "v5"}, rows + [("v7", "plus", "v5", "v0")]
        behind = {**inner, **itself("v6", "v7")}
        self.plain_paper(paper, "f", {0: itself("v0", "v1"), 3: ahead, 5: ahead, 4: inner, 6: behind, 8: behind},
                         {3: rows, 5: rows, 4: rows, 6: more, 8: more})
        told = {
            **blocks, 4: (blocks[4][0], (*blocks[4][1], blocks[6][1][2]), blocks[4][2]),
            6: ((), (STILL, *[blocks[6][1][at] for at in (1, 3, 4)]), blocks[6][2]),
        }
        self.done(self.CODE, ("hoist", 6, 2, 4), (name, result, told))

    def test_which_may_be_done(self):
        self.assertEqual(steps_of(SCOPE, {"f": self.CODE}, "f", "hoist"), [
            ("hoist", 3, 1, 0), ("hoist", 4, 1, 0), ("hoist", 6, 2, 4), ("hoist", 6, 4, 0), ("hoist", 6, 4, 4),
        ])

    def test_refusals(self):
        for step, why in (
            (("hoist", 1, 0, 0), ("spot",)), (("hoist", 6, 6, 0), ("spot",)), (("hoist", 6, 2, 9), ("spot",)), (("hoist", 6, 5, 0), ("row",)),
            (("hoist", 6, 0, 4), ("row",)), (("hoist", 6, 1, 4), ("row",)), (("hoist", 5, 1, 0), ("row",)), (("hoist", 6, 2, 6), ("row",)),
            # To does not stand ahead; or a place that is read is given in 4, which does not stand ahead of 0, or in 6.
            (("hoist", 6, 2, 5), ("way", (0, 3, 4, 6))), (("hoist", 6, 2, 3), ("way", (0, 5, 4, 6))), (("hoist", 4, 1, 6), ("way", (0, 3, 4))),
            (("hoist", 6, 2, 0), ("way", (0,))), (("hoist", 6, 3, 4), ("way", (0, 3, 4))), (("hoist", 4, 2, 0), ("way", (0,))),
            (("hoist", 0, 1, 4), ("way", (0,))), (("hoist", 4, 2, 5), ("way", (0, 3, 4))),
        ):
            self.refused(self.CODE, step, why)

    def test_the_first_place_that_is_not_held(self):
        code = ("f", "number", {
            0: ((("v0", "number"), ("v1", "number")), (MARK,), ("branch", "v0", 1, 2)), 1: ((), (MARK,), ("jump", 3, ())), 2: ((), (MARK,), ("jump", 3, ())),
            3: ((), (MARK, ("v3", "copy", "v0")), ("jump", 4, ())), 4: ((), (MARK, ("v4", "copy", "v0")), ("jump", 5, ())),
            5: ((), (MARK, ("v5", "plus", "v4", "v3"), ("v6", "plus", "v3", "v4"), ("v7", "plus", "v0", "v4")), ("return", "v5")),
        })
        self.refused(code, ("hoist", 5, 1, 3), ("way", (0, 1, 3)))
        self.refused(code, ("hoist", 5, 2, 0), ("way", (0,)))
        self.refused(code, ("hoist", 5, 3, 3), ("way", (0, 1, 3)))
        self.assertTrue(is_step(SCOPE, {"f": code}, "f", ("hoist", 5, 1, 4)))


class Merge(Case):
    CODE = ("f", "number", {
        0: ((("v0", "number"), ("v1", "number")), (MARK, ("v2", "const", 1)), ("jump", 9, ("v2", "v0"))),
        9: ((("v3", "number"), ("v4", "number")), (context("mark", ("f", 1, {"a": "v3", "b": ("number", ("of", "v4", -1, 0))})), ("v5", "plus", "v3", "v4")),
            ("branch", "v5", 5, 3)),
        5: ((), (STILL,), ("jump", 4, ("v3",))), 3: ((), (STILL, (None, "show", "v4")), ("jump", 4, ("v4",))),
        4: ((("v6", "number"),), (MARK,), ("try", "g", ("v6",), 7, 8)), 7: ((("v7", "number"),), (MARK,), ("jump", 4, ("v7",))),
        8: ((("v8", "number"),), (MARK,), ("jump", 2, ())), 2: ((), (STILL, ("v9", "plus", "v8", "v3")), ("return", "v9")),
    })

    def test_done(self):
        name, result, blocks = self.CODE
        told = {key: blocks[key] for key in blocks if key != 9}
        told[0] = (blocks[0][0], (MARK, ("v2", "const", 1), context("mark", ("f", 1, {"a": "v2", "b": ("number", ("of", "v0", -1, 0))})),
                                  ("v5", "plus", "v2", "v0")), ("branch", "v5", 5, 3))
        told[5] = ((), (STILL,), ("jump", 4, ("v2",)))
        told[3] = ((), (STILL, (None, "show", "v0")), ("jump", 4, ("v0",)))
        told[2] = ((), (STILL, ("v9", "plus", "v8", "v2")), ("return", "v9"))
        paper = self.done(self.CODE, ("merge", 9), (name, result, told))
        ahead = {**itself("v0", "v1", "v2", "v5"), "v3": "v2", "v4": "v0"}
        rows = [("v2", "const", 1), ("v5", "plus", "v2", "v0")]
        inner = {**ahead, "v6": "v6"}
        behind = {**inner, "v8": "v8"}
        self.plain_paper(paper, "f", {
            0: itself("v0", "v1"), 3: ahead, 5: ahead, 4: inner, 7: {**inner, "v7": "v7"}, 8: behind, 2: behind,
        }, {at: rows for at in (2, 3, 4, 5, 7, 8)})
        told = {key: blocks[key] for key in blocks if key != 2}
        told[8] = ((("v8", "number"),), (MARK, STILL, ("v9", "plus", "v8", "v3")), ("return", "v9"))
        self.done(self.CODE, ("merge", 2), (name, result, told))
        self.assertEqual(steps_of(SCOPE, {"f": self.CODE}, "f", "merge"), [("merge", 2), ("merge", 9)])

    def test_refusals(self):
        for step, why in (
            (("merge", 0), ("row",)), (("merge", 5), ("row",)), (("merge", 3), ("row",)), (("merge", 7), ("row",)), (("merge", 8), ("row",)),
            (("merge", 4), ("ends", (3, 5, 7))), (("merge", 1), ("spot",)),
        ):
            self.refused(self.CODE, step, why)
        self.refused(Hoist.CODE, ("merge", 4), ("ends", (3, 5, 6)))
        two = with_rows(Hoist.CODE, 6, Hoist.CODE[2][6][1])
        two[2][6] = (*two[2][6][:2], ("return", "v9"))
        self.refused(two, ("merge", 4), ("ends", (3, 5)))


class Forms(Case):
    RIGHT = [("fold", 0, 1), ("same", 0, 3, "v2"), ("alike", 4, 0), ("twins", 4, 0, 1), ("spare", 4, 0), ("dead", 0, 1), ("hoist", 6, 2, 4), ("merge", 9),
             ("inline", 0, 1)]

    def calls(self, thing):
        codes = {"f": Hoist.CODE}
        return (lambda: stepped(SCOPE, codes, "f", thing)), (lambda: refusal(SCOPE, codes, "f", thing))

    def test_what_is_no_step(self):
        wrong = odd_values() + [other for step in self.RIGHT for turn in (as_list, as_bool) for other in changed(step, turn)]
        wrong += [step + (0,) for step in self.RIGHT] + [step[:-1] for step in self.RIGHT] + [step[1:] for step in self.RIGHT]
        wrong += [step[:at] + (-1,) + step[at + 1:] for step in self.RIGHT for at in range(1, len(step))]
        wrong += [("same", 0, 1, place) for place in ("r0", "s0", "v01", "v10000", "v", 2, None, "V1", ("v1",), "w1")]
        wrong += [("other", 0, 1), ("Fold", 0, 1), (None, 0, 1), ((), 0, 1), ("fold",), ("fold", "0", 1), ("merge", None), ("merge", (9,)), "merge"]
        for thing in wrong:
            for call in self.calls(thing):
                self.assertRaises(BadStep, call)
            self.assertIs(is_step(SCOPE, {"f": Hoist.CODE}, "f", thing), False)

    def test_any_numbers_have_the_form(self):
        for step in self.RIGHT:
            for at in range(1, len(step)):
                if not isinstance(step[at], str):
                    other = step[:at] + (10 ** 12,) + step[at + 1:]
                    self.refused(Hoist.CODE, other, ("spot",))
        self.refused(Hoist.CODE, ("same", 4, 1, "v9999"), ("spot",))


class WrongValues(Case):
    CALLS = (
        lambda scope, codes, name: stepped(scope, codes, name, None), lambda scope, codes, name: is_step(scope, codes, name, None),
        lambda scope, codes, name: steps_of(scope, codes, name, None), lambda scope, codes, name: refusal(scope, codes, name, None),
    )

    def test_scopes_codes_and_names(self):
        for call in self.CALLS:
            for thing in odd_values():
                if not isinstance(thing, Scope):
                    self.assertRaises(BadScope, call, thing, None, None)
                if not (isinstance(thing, dict) and not thing):
                    with self.assertRaises(BadCodes) as caught:
                        call(SCOPE, thing, None)
                    self.assertEqual(caught.exception.at, "a" if isinstance(thing, dict) and "a" in thing else None)
                with self.assertRaises(BadCodes) as caught:
                    call(SCOPE, {"f": Hoist.CODE, "b": thing, "z": None}, None)
                self.assertEqual(caught.exception.at, "b")
                if thing != "f":
                    with self.assertRaises(NoFunction) as caught:
                        call(SCOPE, {"f": Hoist.CODE}, thing)
                    self.assertEqual(repr(caught.exception.name), repr(thing))
            with self.assertRaises(BadCodes) as caught:
                call(SCOPE, {"g": Hoist.CODE}, "g")
            self.assertEqual(caught.exception.at, "g")

    def test_words(self):
        for thing in odd_values() + ["Fold", "folds", "", ("fold",), ["fold"], None]:
            self.assertRaises(BadWord, steps_of, SCOPE, {"f": Hoist.CODE}, "f", thing)
        for word in WORDS:
            self.assertIsInstance(steps_of(SCOPE, {"f": Hoist.CODE}, "f", word), list)

    def test_what_is_passed_is_not_changed(self):
        codes = {"g": numbers_code("g", {0: (["v0"], [], ("return", "v0"))}), "f": Merge.CODE}
        before, keys = repr(codes), list(codes)
        for word in WORDS:
            for step in steps_of(SCOPE, codes, "f", word):
                code, paper = stepped(scope=SCOPE, codes=codes, name="f", step=step)
                code[2].clear()
                for anchor, _, _ in paper.values():
                    anchor[0][3].clear()
                self.assertEqual(stepped(SCOPE, codes, "f", step)[0][0], "f")
                self.assertIsNone(refusal(scope=SCOPE, codes=codes, name="f", step=step))
        self.assertEqual((repr(codes), list(codes)), (before, keys))


if __name__ == "__main__":
    unittest.main()
