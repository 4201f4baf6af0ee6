"""Points 91 to 93: papers, the judge, and numbers by which two sides part."""

import random
import unittest

from code_tools import context, kinds_and_codes, numbers_code, sound_programs, starts_of
from odd_values import as_bool, as_list, as_number, bent, changed, has_odd_bools, odd_values
from random_codes import random_code
from stopanywhere.errors import BadChanges, BadCode, BadCodes, BadPaper, BadScope
from stopanywhere.forms import Scope, is_named, scope_of_codes
from stopanywhere.judge import judge, judge_all, parted
from stopanywhere.papers import is_paper
from stopanywhere.passes import lean, rewritten
from stopanywhere.placing import placed_code
from stopanywhere.runner import Codes
from stopanywhere.sessions import led
from stopanywhere.steps import steps_of, stepped
from stopanywhere.ways import kinds_at
from test_placing import SCOPE as SORTS_SCOPE, SORTS

F = Scope([], {"f": (("number",), "number"), "g": (("number",), "number"), "h": (("number",), "number")})
C = [("choice", "c", (("v", ()), ("w", ("number", "c")))), ("row", "r", "c")]
WORDS = ("fold", "same", "alike", "twins", "spare", "dead", "hoist", "merge", "inline")


def same_paper(code, scope):
    """The paper by which a code stands beside itself."""
    found = {}
    for number in sorted(code[2]):
        places = kinds_at(code, scope, (number, 0))
        found[number] = (((code[0], number, 0, {place: ("of", place, 1, 0) for place in places}),), (), False)
    return found


def beside(old, code, scope):
    """The paper by which a code stands beside another one with the same blocks, as far as both have the same places."""
    found = {}
    for number in sorted(code[2]):
        places, others = kinds_at(code, scope, (number, 0)), {}
        if number in old[2]:
            others = kinds_at(old, scope, (number, 0))
        found[number] = (((code[0], number, 0, {place: ("of", place, 1, 0) for place in places if place in others}),), (), False)
    return found


def with_block(code, number, block):
    return code[0], code[1], {**code[2], number: block}


def with_rows(code, number, rows, end=None):
    """A code with other rows in a block, and perhaps another end."""
    parameters, _, old_end = code[2][number]
    return with_block(code, number, (parameters, tuple(rows), end or old_end))


def with_part(paper, number, **told):
    anchor, facts, late = paper[number]
    return {**paper, number: (told.get("anchor", anchor), told.get("facts", facts), told.get("late", late))}


OLD = numbers_code("f", {
    0: (["v0"], [("v1", "const", 2), ("v2", "plus", "v0", "v1"), (None, "show", "v2"), ("v3", "less", "v0", "v1")], ("jump", 1, ("v2",))),
    1: (["v4"], [(None, "show", "v4"), ("v5", "over", "v4", "v0")], ("branch", "v3", 2, 3)),
    2: ([], [], ("return", "v5")), 3: ([], [("v6", "const", -1), ("v7", "plus", "v4", "v6")], ("jump", 1, ("v7",))),
})
PAPER = same_paper(OLD, F)
MARK = context("mark", ("f", 0, {"x": "v0", "y": "v2"}))


class Papers(unittest.TestCase):
    def is_paper(self, thing, code=OLD, codes=None, scope=F):
        found = is_paper(scope, codes or {"f": OLD}, code, thing)
        self.assertIsInstance(found, bool)
        return found

    def test_right(self):
        self.assertTrue(self.is_paper(PAPER))
        turned = {number: PAPER[number] for number in reversed(list(PAPER))}
        self.assertTrue(self.is_paper(turned))
        # Nothing need be told.
        self.assertTrue(self.is_paper({number: ((("f", number, 0, {}),), (), False) for number in PAPER}))
        self.assertTrue(self.is_paper(with_part(PAPER, 1, anchor=(("f", 3, 3, {"v7": ("is", 5), "v6": ("of", "v4", -1, 9)}),))))

    def test_blocks(self):
        self.assertFalse(self.is_paper({number: PAPER[number] for number in (0, 1, 2)}))
        self.assertFalse(self.is_paper({**PAPER, 4: PAPER[3]}))
        self.assertFalse(self.is_paper({0: PAPER[0], True: PAPER[1], 2: PAPER[2], 3: PAPER[3]}))
        self.assertFalse(self.is_paper({0: PAPER[0], 1: PAPER[1], 2: PAPER[2], 4: PAPER[3]}))
        self.assertFalse(self.is_paper(list(PAPER.items())))

    def test_levels(self):
        told = {"v0": ("of", "v0", 1, 0)}
        for level in (
            ("f", 4, 0, told), ("f", 3, 4, told), ("f", 3, -1, told), ("g", 0, 0, {}), ("f", 0, 0, {"v1": ("is", 2)}),
            ("f", 3, True, told), ("f", True, 0, told), ["f", 3, 0, told], ("f", 3, 0, {"v9": ("is", 1)}), ("f", 3, 0),
            ("f", 3, 0, {"v0": ("lost",)}), ("f", 3, 0, {"v0": ("of", "v7", 1, 0)}), ("f", 3, 0, {"v0": ("of", "v0", 2, 0)}),
            ("f", 3, 0, {"v0": ("make", "w", ())}), ("f", 3, 0, {0: ("is", 1)}), ("f", 3, 0, [("v0", ("is", 1))]),
        ):
            self.assertFalse(self.is_paper(with_part(PAPER, 3, anchor=(level,))), level)
        for anchor in ((), [("f", 3, 0, told)], (("f", 3, 0, told), ("f", 3, 0, told)), None):
            self.assertFalse(self.is_paper(with_part(PAPER, 3, anchor=anchor)), anchor)
        self.assertTrue(self.is_paper(with_part(PAPER, 3, anchor=(("f", 3, 3, {"v7": ("is", 5)}),))))

    def test_levels_of_calls(self):
        calling = numbers_code("f", {0: (["v0"], [("v1", "call", "g", ("v0",)), ("v2", "call", "f", ("v1",))], ("jump", 1, ())),
                                     1: ([], [], ("return", "v2"))})
        called = numbers_code("g", {0: (["v0"], [("v1", "call", "g", ("v0",))], ("return", "v1"))})
        codes = {"f": calling, "g": called}
        paper = same_paper(calling, F)

        def told(*anchor):
            return self.is_paper(with_part(paper, 1, anchor=anchor), calling, codes)

        outer, inner = ("f", 0, 1, {"v0": ("of", "v1", 1, 0)}), ("g", 0, 1, {"v0": ("is", 3)})
        self.assertTrue(told(("g", 0, 0, {}), outer))
        self.assertTrue(told(*[inner] * 11, outer))
        self.assertFalse(told(*[inner] * 12, outer))
        self.assertFalse(told(("g", 0, 0, {}), ("f", 0, 2, {})))
        self.assertTrue(told(("f", 0, 0, {}), ("f", 0, 2, {})))
        self.assertFalse(told(("g", 0, 0, {})))
        self.assertFalse(told(outer, inner))
        self.assertFalse(told(("g", 0, 0, {}), ("f", 0, 0, {})))
        self.assertFalse(told(("g", 0, 0, {}), ("f", 0, 3, {})))

    def test_facts(self):
        right = ("v7", "plus", "v4", "v6")
        code = with_block(OLD, 2, OLD[2][2])
        for facts, wanted in (
            ((("v1", "const", 2), ("v2", "plus", "v0", "v1")), True), ((("v2", "plus", "v0", "v1"), ("v1", "const", 2)), False),
            ((("v2", "plus", "v0", "v1"), ("v2", "plus", "v1", "v0")), False), ((("v2", "plus", "v2", "v1"),), False), ((right,), False),
            (((None, "show", "v0"),), False), ((("v5", "over", "v4", "v0"),), False), ([("v1", "const", 2)], False), ((["v1", "const", 2],), False),
            ((("v1", "const", True),), False), ((("v1", "make", "v", ()),), False), ((("v1", "copy", "v8"),), False), ((("v3", "copy", "v4"),), True),
            (((None, "mark", ()),), False), ((("v7", "const", 1),), False), ((("v3", "tag", "v4"),), False), ((("v3", "long", "r", "v4"),), False), (((),), False),
            ((("v1", "less", "v3", "v2"), ("v3", "const", 1)), False), ((("v3", "const", 1), ("v1", "less", "v3", "v2")), True),
        ):
            self.assertIs(self.is_paper(with_part(PAPER, 3, facts=facts), code), wanted, facts)

    def test_facts_of_boxes(self):
        block = ((), (context("still", ("f", 9, {})),), ("jump", 70, ()))
        last = ((), (context("still", ("f", 9, {})),), ("fail", "v0"))
        kept = ((), (context("still", ("f", 9, {})), ("v50", "new", "r", "v0", "v51"), ("v52", "make", "w", ("v0", "v51"))), ("jump", 60, ()))
        parameters, rows, _ = SORTS[2][0]
        code = ("f", "number", {0: (parameters, (*rows[:1], ("v51", "make", "v", ())), ("jump", 50, ())), 50: kept, 60: block, 70: last})
        paper = same_paper(code, SORTS_SCOPE)
        for row, wanted in (
            (("v52", "make", "w", ("v0", "v51")), True), (("v52", "make", "v", ()), True), (("v50", "make", "v", ()), False),
            (("v52", "copy", "v51"), True), (("v52", "copy", "v50"), False), (("v0", "tag", "v52"), True), (("v0", "tag", "v50"), False),
            (("v1", "part", "w", 0, "v52"), True), (("v1", "part", "w", 1, "v52"), False), (("v52", "part", "w", 1, "v51"), True),
            (("v1", "part", "w", 2, "v52"), False), (("v1", "part", "q", 0, "v52"), False), (("v1", "long", "r", "v50"), True),
            (("v1", "long", "c", "v50"), False), (("v1", "long", "c", "v51"), False), (("v1", "long", "r", "v52"), False), (("v52", "make", "w", ("v51", "v0")), False),
        ):
            told = with_part(paper, 60, facts=(row,))
            self.assertIs(self.is_paper(told, code, {"f": code}, SORTS_SCOPE), wanted, row)
        for formula, wanted in (
            (("make", "v", ()), True), (("make", "w", (("is", 3), ("of", "v51", 1, 0))), True), (("make", "w", (("is", 3), ("lost",))), False),
            (("make", "w", (("is", 3),)), False), (("make", "q", ()), False), (("is", 0), False), (("of", "v51", -1, 0), False),
            (("of", "v51", 1, 1), False), (("of", "v50", 1, 0), False), (("of", "v52", 1, 0), True), (("make", "r", ()), False),
        ):
            told = with_part(paper, 60, anchor=(("f", 60, 0, {"v51": formula}),))
            self.assertIs(self.is_paper(told, code, {"f": code}, SORTS_SCOPE), wanted, formula)

    def test_late(self):
        code = with_rows(OLD, 3, [context("back", ("f", 3, {})), *OLD[2][3][1][1:]])
        for late, wanted in ((True, True), (False, True), (1, False), (0, False), (None, False), ("", False)):
            self.assertIs(self.is_paper(with_part(PAPER, 3, late=late), code), wanted)
        self.assertFalse(self.is_paper(with_part(PAPER, 3, late=True)))
        first = with_rows(OLD, 0, [context("back", ("f", 3, {})), *OLD[2][0][1][1:]])
        self.assertTrue(self.is_paper(PAPER, first))
        self.assertFalse(self.is_paper(with_part(PAPER, 0, late=True), first))

    def test_block_0(self):
        for told, wanted in (
            (("f", 0, 0, {}), True), (("f", 0, 1, {}), False), (("f", 1, 0, {}), False), (("f", 0, 0, {"v0": ("is", 3)}), False),
            (("f", 0, 0, {"v0": ("of", "v0", 1, 1)}), False), (("f", 0, 0, {"v0": ("of", "v0", -1, 0)}), False),
        ):
            self.assertIs(self.is_paper(with_part(PAPER, 0, anchor=(told,))), wanted)
        self.assertFalse(self.is_paper(with_part(PAPER, 0, facts=(("v0", "const", 1),))))
        two = ("f", "number", {0: ((("v0", "number"), ("v1", "number")), (context("mark", ("f", 0, {})),), ("return", "v0"))})
        scope = Scope([], {"f": (("number", "number"), "number")})
        for equations, wanted in (
            ({"v0": ("of", "v0", 1, 0), "v1": ("of", "v1", 1, 0)}, True), ({"v1": ("of", "v1", 1, 0)}, True),
            ({"v0": ("of", "v1", 1, 0), "v1": ("of", "v0", 1, 0)}, False), ({"v1": ("of", "v0", 1, 0)}, False),
        ):
            paper = {0: ((("f", 0, 0, equations),), (), False)}
            self.assertIs(is_paper(scope, {"f": two}, two, paper), wanted)

    def test_bent_papers(self):
        rng = random.Random(3)
        codes = {"f": OLD}
        for step in (("dead", 3, 1), ("same", 0, 2, "v0")):
            self.assertNotIn(step, steps_of(F, codes, "f", step[0]))
        papers = [(PAPER, OLD)]
        for word in ("hoist",):
            new, paper = stepped(F, codes, "f", steps_of(F, codes, "f", word)[0])
            papers.append((paper, new))
        new, paper = placed_code(OLD, 6)
        papers.append((paper, new))
        for paper, code in papers:
            self.assertTrue(self.is_paper(paper, code))
            for turn in (as_bool, as_number):
                for other in changed(paper, turn):
                    self.assertFalse(self.is_paper(other, code))
            for other in changed(paper, as_list):
                self.assertFalse(self.is_paper(other, code))
            for _ in range(60):
                thing = rng.choice(odd_values())
                spots = list(changed(paper, lambda part: [thing]))
                other = rng.choice(spots)
                # A number of a formula, or no equations at all, may be told so.
                if self.is_paper(other, code):
                    self.assertTrue(thing == {} or thing == () or isinstance(thing, (int, str)))

    def test_any_value(self):
        for thing in odd_values():
            self.assertIs(self.is_paper(thing), False)

    def test_anything_else_at_any_place(self):
        rng = random.Random(12)
        let = 0
        for new, paper in (stepped(F, {"f": OLD}, "f", steps_of(F, {"f": OLD}, "f", "hoist")[0]), placed_code(OLD, 6)):
            for other in bent(rng, paper, 400):
                if self.is_paper(other, new):
                    let += 1
                    judge(F, {"f": OLD}, new, other)
                    parted(F, {"f": OLD}, new, other)
                    self.assertFalse(has_odd_bools([(told[0], told[1]) for told in other.values()]))
                    self.assertFalse(has_odd_bools(list(other)))
                else:
                    self.assertRaises(BadPaper, judge, F, {"f": OLD}, new, other)
        self.assertGreater(let, 40)


class Judge(unittest.TestCase):
    def check(self, code, wanted, paper=None, codes=None, scope=F):
        codes = codes or {"f": OLD}
        paper = paper or beside(codes[code[0]], code, scope)
        self.assertTrue(is_named(code, scope))
        self.assertTrue(is_paper(scope, codes, code, paper))
        self.assertEqual(judge(scope, codes, code, paper), wanted)
        told = judge_all(scope, codes, [(code, paper)])
        self.assertEqual(told, None if wanted is None else (0, *wanted))
        return parted(scope, codes, code, paper)

    def rows(self, number):
        return list(OLD[2][number][1])

    def test_what_is_let(self):
        self.assertIsNone(self.check(OLD, None))
        rows = self.rows(0)
        for more in (
            [rows[0], rows[1], ("v2", "plus", "v1", "v0"), *rows[3:]],
            [rows[0], rows[1], ("v9", "const", -2), ("v2", "minus", "v0", "v9"), *rows[3:]],
            [rows[0], ("v3", "const", 1), ("v9", "plus", "v0", "v3"), ("v2", "plus", "v9", "v3"), rows[3], ("v1", "const", 2), ("v8", "less", "v0", "v1")],
            [rows[0], rows[0][:1] + ("still",) + rows[0][2:], *rows[1:], rows[0][:1] + ("still",) + rows[0][2:]],
            [*rows, ("v9", "times", "v2", "v2")],
            [rows[0], rows[1], ("v9", "copy", "v0"), ("v2", "plus", "v9", "v1"), *rows[3:]],
        ):
            code = with_rows(OLD, 0, more)
            if ("v8", "less", "v0", "v1") in more:
                # The branch reads another truth of the same term.
                code = with_rows(code, 1, self.rows(1), ("branch", "v8", 2, 3))
                paper = beside(OLD, code, F)
                for number in (1, 2, 3):
                    told = {**paper[number][0][0][3], "v3": ("of", "v8", 1, 0)}
                    paper = with_part(paper, number, anchor=(("f", number, 0, told),))
                self.check(code, None, paper)
            else:
                self.check(code, None)

    def test_each_word_of_rows(self):
        rows = self.rows(0)
        for more, at, word in (
            ([rows[0], *rows[1:3], *rows[4:]], 4, None), ([rows[0], *rows[1:4], rows[3], rows[4]], 4, "stands"),
            ([rows[0], rows[1], rows[2], ("v9", "over", "v0", "v1"), *rows[3:]], 3, "stands"),
            ([rows[0], rows[0], *rows[1:]], 1, "stands"), ([context("back", ("f", 0, {})), *rows[1:]], 0, "stands"),
            ([context("mark", ("f", 7, {})), *rows[1:]], 0, "frames"), ([context("mark", ("f", 0, {}), ("f", 0, {})), *rows[1:]], 0, "frames"),
            ([context("mark", ("f", 0, {"x": "v0"})), *rows[1:]], 0, "frames"),
            ([rows[0], *rows[1:3], (None, "show", "v0"), rows[4]], 3, "terms"),
            ([context("still", ("f", 0, {})), *rows[1:]], 0, "stands"), ([rows[0], context("still", ("f", 5, {})), *rows[1:]], 1, "stands"),
            ([rows[0], context("still", ("f", 0, {"x": "v0"})), *rows[1:]], 1, "frames"),
        ):
            code = with_rows(OLD, 0, more)
            if word is None:
                # The old side then stands at the show that is left out.
                self.check(code, (0, at, "stands"))
            else:
                self.check(code, (0, at, word))

    def test_told(self):
        old = with_rows(OLD, 0, [context("mark", ("f", 0, {"x": "v0", "y": ("number", ("is", 4)), "z": ("number", ("lost",))})), *self.rows(0)[1:]])
        codes = {"f": old}
        for told, wanted in (
            ({"x": "v0", "y": ("number", ("is", 4)), "z": ("number", ("lost",))}, None),
            ({"x": ("number", ("lost",)), "y": ("number", ("lost",)), "z": ("number", ("lost",))}, None),
            ({"x": ("number", ("of", "v0", 1, 1)), "y": ("number", ("is", 4)), "z": ("number", ("lost",))}, "told"),
            ({"x": ("number", ("of", "v0", -1, 0)), "y": ("number", ("is", 4)), "z": ("number", ("lost",))}, "told"),
            ({"x": "v0", "y": ("number", ("is", 5)), "z": ("number", ("lost",))}, "told"),
            ({"x": "v0", "y": ("number", ("is", 4)), "z": ("number", ("is", 0))}, "told"),
            ({"x": "v0", "y": ("number", ("is", 4))}, "frames"), ({"x": "v0", "y": ("number", ("is", 5)), "zz": ("number", ("lost",))}, "frames"),
        ):
            code = with_rows(old, 0, [context("mark", ("f", 0, told)), *self.rows(0)[1:]])
            found = self.check(code, wanted and (0, 0, wanted), None, codes)
            if wanted != "told" or told["z"] != ("number", ("lost",)):
                self.assertIsNone(found)
            elif told["y"] == ("number", ("is", 5)):
                self.assertEqual(list(found), ["v0"])
            else:
                self.assertNotEqual(found["v0"] if told["x"][1][2] == -1 else 1, 0)

    def test_ends(self):
        for number, end, wanted in (
            (0, ("jump", 1, ("v1",)), (0, 5, "equation")), (1, ("branch", "v3", 3, 2), (1, 3, "stands")), (1, ("branch", "v4", 2, 3), (1, 3, "stands")),
            (2, ("return", "v4"), (2, 1, "terms")), (2, ("fail", "v5"), (2, 1, "stands")),
            (3, ("jump", 1, ("v4",)), (3, 3, "equation")), (3, ("return", "v0"), (3, 3, "stands")),
        ):
            code = with_rows(OLD, number, self.rows(number), end)
            self.check(code, wanted, {at: PAPER[at] for at in code[2]})

    def test_the_first_one(self):
        code = with_rows(OLD, 2, self.rows(2), ("return", "v4"))
        code = with_rows(code, 3, self.rows(3), ("jump", 1, ("v4",)))
        self.check(code, (2, 1, "terms"))
        code = with_rows(code, 1, [*self.rows(1)[:1], (None, "show", "v0"), ("v5", "over", "v0", "v0")])
        self.check(code, (1, 1, "terms"))

    def test_fails_and_tries(self):
        old = numbers_code("f", {
            0: (["v0"], [("v1", "plus", "v0", "v0")], ("try", "g", ("v1",), 2, 3)), 2: (["v2"], [(None, "show", "v2")], ("fail", "v0")),
            3: (["v3"], [], ("jump", 4, ("v3",))), 4: (["v4"], [("v5", "call", "h", ("v4",))], ("return", "v5")),
        })
        codes = {"f": old}
        self.check(old, None, None, codes)
        rows = {number: list(old[2][number][1]) for number in old[2]}
        for number, more, end, wanted in (
            (0, rows[0], ("try", "h", ("v1",), 2, 3), (0, 2, "stands")), (0, rows[0], ("try", "g", ("v0",), 2, 3), (0, 2, "terms")),
            (2, rows[2], ("fail", "v2"), (2, 2, "terms")), (2, rows[2], ("return", "v0"), (2, 2, "stands")),
            (2, [*rows[2][:1], context("still", ("f", 2, {})), rows[2][1]], None, None),
            (4, [rows[4][0], ("v5", "call", "g", ("v4",))], None, (4, 1, "stands")),
            (4, [rows[4][0], ("v5", "call", "h", ("v0",))], None, (4, 1, "terms")),
        ):
            self.check(with_rows(old, number, more, end), wanted, None, codes)
        # On the way of the result, then on that of the failure.
        paper = same_paper(old, F)
        for number, wanted in ((2, (0, 2, "equation")), (3, (0, 2, "equation"))):
            equations = {**paper[number][0][0][3], "v1": ("is", 8)}
            bent = with_part(paper, number, anchor=(("f", number, 0, equations),))
            self.assertIsNone(self.check(old, wanted, bent, codes))
        # What is got from the call is known on both sides, and is no number that is told.
        self.check(old, (0, 2, "equation"), with_part(paper, 2, anchor=(("f", 2, 0, {"v2": ("of", "v0", 1, 0)}),)), codes)
        # Where something fails counts.
        other = with_rows(old, 2, [*rows[2], context("still", ("f", 9, {}))])
        self.check(other, (2, 2, "stands"), None, codes)

    def test_frames_at_acting_rows(self):
        still = context("still", ("f", 5, {}))
        old = with_rows(OLD, 0, [*self.rows(0)[:3], still, *self.rows(0)[3:]])
        codes = {"f": old}
        self.check(old, None, None, codes)
        self.check(OLD, (0, 3, "frames"), None, codes)
        fails = numbers_code("f", {0: (["v0"], [still], ("fail", "v0"))})
        self.check(fails, None, None, {"f": fails})
        self.check(numbers_code("f", {0: (["v0"], [], ("fail", "v0"))}), (0, 1, "frames"), None, {"f": fails})
        # What is returned is asked alone.
        returns = numbers_code("f", {0: (["v0"], [still], ("return", "v0"))})
        self.check(numbers_code("f", {0: (["v0"], [], ("return", "v0"))}), None, None, {"f": returns})

    def test_facts(self):
        facts = (("v1", "const", 2), ("v2", "plus", "v0", "v1"))
        code = with_rows(OLD, 3, [*self.rows(3)[:1], ("v6", "minus", "v0", "v2"), ("v8", "const", 1), ("v9", "plus", "v6", "v8"), ("v7", "plus", "v4", "v9")])
        self.check(code, (3, 5, "equation"))
        paper = same_paper(code, F)
        paper = with_part(with_part(paper, 1, facts=facts), 3, facts=facts)
        self.check(code, None, paper)
        wrong = with_part(paper, 3, facts=(("v1", "const", 2), ("v2", "plus", "v0", "v0")))
        self.check(code, (1, 3, "fact"), wrong)
        self.check(code, (0, 5, "fact"), with_part(paper, 1, facts=(("v1", "const", 3),)))

    def test_equations_of_numbers(self):
        # Blocks of the new code know by the paper alone what places hold.
        code = with_rows(OLD, 3, [*self.rows(3)[:1], ("v6", "const", -1), ("v7", "plus", "v4", "v6"), ("v8", "const", 2)])
        self.check(code, None)
        told = {place: ("of", place, 1, 0) for place in kinds_at(code, F, (3, 0))}
        bent = with_part(same_paper(code, F), 3, anchor=(("f", 3, 0, {**told, "v1": ("is", 3)}),))
        self.check(code, (1, 3, "equation"), bent)
        # What is not told is not known.
        less = {place: told[place] for place in told if place != "v4"}
        self.check(code, (3, 4, "equation"), with_part(same_paper(code, F), 3, anchor=(("f", 3, 0, less),)))

    def test_idle(self):
        old = numbers_code("f", {0: (["v0"], [], ("jump", 1, ())), 1: ([], [], ("return", "v0"), "still")})
        ring = numbers_code("f", {0: (["v0"], [], ("jump", 1, ())), 1: ([], [], ("jump", 1, ()), "still")})
        told = (("f", 1, 1, {}),)
        self.check(ring, (1, 1, "idle"), {0: PAPER[0], 1: (told, (), False)}, {"f": old})
        self.check(ring, (1, 1, "stands"), same_paper(old, F), {"f": old})
        longer = numbers_code("f", {
            0: (["v0"], [], ("jump", 1, ())), 1: ([], [], ("jump", 2, ()), "still"), 2: ([], [], ("jump", 1, ()), "still"),
        })
        longer[2][2] = ((), longer[2][1][1], ("jump", 1, ()))
        self.check(longer, (1, 1, "idle"), {0: PAPER[0], 1: (told, (), False), 2: (told, (), False)}, {"f": old})
        # A ring beside a ring does something; a ring of the old side alone is gone round until it is too long.
        self.check(ring, None, None, {"f": ring})
        self.check(old, (1, 1, "stands"), same_paper(old, F), {"f": ring})
        # With a mark in the ring the old side must come to one.
        marked = numbers_code("f", {0: (["v0"], [], ("jump", 1, ())), 1: ([], [], ("jump", 1, ()))})
        self.check(marked, (1, 0, "stands"), same_paper(marked, F), {"f": old})
        # A block put between is no ring, but does nothing by itself.
        between = numbers_code("f", {0: (["v0"], [], ("jump", 2, ())), 2: ([], [], ("jump", 1, ()), "still"), 1: ([], [], ("return", "v0"), "still")})
        between[2][2] = ((), between[2][1][1], ("jump", 1, ()))
        at, behind = [(("f", 1, index, {"v0": ("of", "v0", 1, 0)}),) for index in (0, 1)]
        self.check(between, (2, 1, "idle"), {0: PAPER[0], 1: (behind, (), False), 2: (behind, (), False)}, {"f": old})
        self.check(between, (2, 1, "stands"), {0: PAPER[0], 1: (at, (), False), 2: (at, (), False)}, {"f": old})
        self.check(between, None, {0: PAPER[0], 1: (behind, (), False), 2: (at, (), False)}, {"f": old})

    def test_branches(self):
        def code(rows, first, second):
            return numbers_code("f", {0: (["v0"], rows, ("branch", "v1", 1, 2)), first: ([], [], ("return", "v0")), second: ([], [], ("fail", "v0"))})

        def plain(rows):
            return code(rows, 1, 2)

        def turned(rows):
            """The blocks the other way round, each with its point."""
            found = code(rows, 1, 2)[2]
            return "f", "number", {0: (found[0][0], found[0][1], ("branch", "v1", 2, 1)), 1: found[1], 2: found[2]}

        less = [("v2", "const", 5), ("v1", "less", "v0", "v2")]
        not_less = [("v2", "const", 5), ("v1", "atmost", "v2", "v0")]
        also_less = [("v2", "const", 4), ("v1", "atmost", "v0", "v2")]
        nothing = [("v1", "not", "v0")]
        itself = [("v1", "copy", "v0")]
        less_one = [("v2", "const", 1), ("v1", "minus", "v2", "v0")]
        twice = [("v3", "not", "v0"), ("v1", "not", "v3")]
        for old, new, wanted in (
            (plain(less), turned(not_less), None), (plain(less), plain(not_less), "stands"), (plain(less), turned(less), "stands"),
            (plain(less), plain(less), None), (plain(nothing), turned(twice), None), (plain(twice), turned(nothing), None),
            (plain(itself), plain(itself), None), (plain(itself), turned(nothing), "stands"), (plain(itself), plain(twice), "stands"),
            (plain(less), plain(also_less), None), (plain(itself), turned(less_one), "stands"), (plain(itself), plain(less_one), "stands"),
        ):
            at = len(new[2][0][1])
            paper = {number: ((("f", number, 0, {"v0": ("of", "v0", 1, 0)}),), (), False) for number in new[2]}
            self.check(new, wanted and (0, at, wanted), paper, {"f": old})
        # A decided branch of the old code, then of the new one.
        decided = plain([("v1", "const", 3)])
        jump = numbers_code("f", {0: (["v0"], [], ("jump", 1, ())), 1: ([], [], ("return", "v0"))})
        told = {number: PAPER[0] if number == 0 else ((("f", 1, 0, {"v0": ("of", "v0", 1, 0)}),), (), False) for number in (0, 1)}
        self.check(jump, None, told, {"f": decided})
        self.check(jump, (0, 1, "stands"), told, {"f": plain([("v1", "const", 0)])})
        wrong = {2: ((("f", 1, 0, {"v0": ("is", 9)}),), (), False), **told}
        self.assertEqual(judge(F, {"f": jump}, decided, wrong), (2, 0, "frames"))

    def test_calls_that_were_put_in(self):
        called = numbers_code("g", {0: (["v0"], [("v1", "plus", "v0", "v0"), (None, "show", "v1")], ("branch", "v0", 1, 2)),
                                    1: ([], [], ("return", "v1")), 2: ([], [], ("fail", "v1"))})
        calling = numbers_code("f", {0: (["v0"], [("v1", "call", "g", ("v0",)), (None, "show", "v1")], ("return", "v1"))})
        codes = {"f": calling, "g": called}
        new, paper = stepped(F, codes, "f", ("inline", 0, 1))
        self.check(new, None, paper, codes)
        last = max(new[2])
        self.assertTrue(paper[last][2])
        # Without its being late the old side must come back at the back, but stands behind the call already.
        self.check(new, (2 if 2 in new[2] else min(n for n in new[2] if new[2][n][2][:2] == ("jump", last)), 1, "stands"),
                   with_part(paper, last, late=False), codes)
        inner = sorted(new[2])[1]
        (level, outer), facts, late = paper[inner]
        bent = with_part(paper, inner, anchor=((*level[:3], {"v0": ("of", "v0", 1, 1)}), outer))
        self.check(new, (0, 1, "equation"), bent, codes)
        other = with_rows(new, inner, [row if row[1] != "show" else (None, "show", "v0") for row in new[2][inner][1]])
        self.check(other, (inner, 2, "terms"), paper, codes)
        # The code of g is not there: then the call is none that can be gone into.
        self.assertEqual(judge(F, {"f": calling, "g": called}, calling, same_paper(calling, F)), None)
        without = {"f": calling}
        self.assertRaises(BadPaper, judge, F, without, new, paper)

    def test_twelve_levels(self):
        # Each function calls the next one; a mark stands in the last one alone.
        names = [f"q{letter}" for letter in "abcdefghijklm"]
        scope = Scope([], {name: (("number",), "number") for name in names})

        def codes_of(many):
            found = {}
            for at, name in enumerate(names):
                rows = [("v1", "call", names[at + 1], ("v0",))] if at < many - 1 else [context("mark", (name, 1, {}))]
                found[name] = (name, "number", {0: ((("v0", "number"),), (context("still", (name, 0, {})), *rows), ("return", "v1" if at < many - 1 else "v0"))})
            return found

        for many, wanted in ((12, (0, 1, "frames")), (13, (0, 1, "stands"))):
            codes = codes_of(many)
            code = ("qa", "number", {0: ((("v0", "number"),), (context("still", ("qa", 0, {})), context("mark", ("qa", 5, {}))), ("return", "v0"))})
            self.assertEqual(judge(scope, codes, code, same_paper(code, scope)), wanted)

    def test_two_thousand_quiet_rows(self):
        for many, wanted in ((1999, None), (2000, (0, 1, "stands"))):
            rows = [(f"v{at + 1}", "copy", "v0") for at in range(many)]
            old = numbers_code("f", {0: (["v0"], rows, ("jump", 1, ())), 1: ([], [], ("return", "v0"))})
            new = numbers_code("f", {0: (["v0"], [], ("jump", 1, ())), 1: ([], [], ("return", "v0"))})
            self.check(new, wanted, None, {"f": old})

    def test_boxes(self):
        codes = {"f": SORTS}
        self.check(SORTS, None, None, codes, SORTS_SCOPE)
        rows = list(SORTS[2][0][1])
        for at, row, wanted in (
            (5, ("v6", "copy", "v3"), (0, 21, "equation")), (7, ("v8", "make", "w", ("v2", "v7")), (0, 8, "terms")),
            (9, (None, "put", "r", "v9", "v0", "v8"), (0, 9, "terms")), (9, (None, "put", "r", "v9", "v2", "v7"), (0, 9, "terms")),
            (10, ("v10", "at", "r", "v9", "v1"), (0, 10, "terms")), (12, ("v12", "part", "w", 0, "v8"), (0, 17, "terms")),
            (16, (None, "show", "v0"), (0, 16, "terms")), (17, ("v15", "over", "v12", "v11"), (0, 17, "stands")),
            (18, ("v16", "call", "g", ("v0", "v15")), (0, 18, "terms")), (18, ("v16", "call", "f", ("v15", "v0")), (0, 18, "stands")),
            (13, ("v13", "const", 3), (0, 15, "terms")),
        ):
            code = with_rows(SORTS, 0, rows[:at] + [row] + rows[at + 1:])
            self.assertIsNone(self.check(code, wanted, None, codes, SORTS_SCOPE), (at, row))
        # A box that is made again of the same parts cannot be told apart.
        more = rows[:20] + [("v40", "make", "v", ()), ("v41", "make", "w", ("v0", "v40"))] + rows[20:]
        back = context("back", ("f", 1, {"a": "v0", "b": ("c", ("make", "w", (("of", "v16", 1, 0), ("of", "v41", 1, 0)))),
                                         "c": ("c", ("of", "v41", 1, 0)), "d": "v5"}))
        self.check(with_rows(SORTS, 0, more[:-1] + [back]), None, None, codes, SORTS_SCOPE)


class OldSides(unittest.TestCase):
    """What the old side does on its own, case by case."""

    def judge(self, old, new, paper, codes=None, scope=F):
        codes = codes or {old[0]: old}
        self.assertTrue(is_paper(scope, codes, new, paper))
        return judge(scope, codes, new, paper)

    def told(self, number, at, equations=(), facts=(), late=False, name="f"):
        return ((name, number, at, {place: ("of", other, 1, 0) for place, other in dict(equations).items()}),), facts, late

    def test_returns(self):
        const = [("v1", "const", 3)]
        old = numbers_code("f", {0: (["v0"], const, ("return", "v1"))})
        for rows, wanted in ((const, None), ([("v1", "const", 4)], (0, 2, "terms")), ([("v1", "copy", "v0")], (0, 2, "terms"))):
            self.assertEqual(self.judge(old, numbers_code("f", {0: (["v0"], rows, ("return", "v1"))}), {0: PAPER[0]}), wanted)
        fails = numbers_code("f", {0: (["v0"], const, ("fail", "v1"))})
        self.assertEqual(self.judge(old, fails, {0: PAPER[0]}), (0, 2, "stands"))
        self.assertEqual(self.judge(fails, old, {0: PAPER[0]}), (0, 2, "stands"))
        # A return of an inner level is none of the whole.
        called = numbers_code("g", {0: (["v0"], [], ("return", "v0"))})
        calling = numbers_code("f", {0: (["v0"], [("v1", "call", "g", ("v0",))], ("return", "v1"))})
        new = numbers_code("f", {0: (["v0"], [context("mark", ("f", 0, {}), ("g", 0, {}))], ("return", "v0"))})
        self.assertEqual(self.judge(calling, new, {0: PAPER[0]}, {"f": calling, "g": called}), (0, 2, "stands"))

    def test_at_an_end_instead_of_a_row(self):
        old = numbers_code("f", {0: (["v0"], [], ("return", "v0"))})
        for row in ((None, "show", "v0"), context("mark", ("f", 1, {})), context("back", ("f", 1, {})), ("v1", "over", "v0", "v0"), ("v1", "call", "f", ("v0",))):
            new = numbers_code("f", {0: (["v0"], [row], ("return", "v0"))})
            self.assertEqual(self.judge(old, new, {0: PAPER[0]}), (0, 1, "stands"))

    def test_undecided_branches_lead_nowhere(self):
        old = numbers_code("f", {0: (["v0"], [], ("branch", "v0", 1, 2)), 1: ([], [], ("fail", "v0")), 2: ([], [], ("return", "v0"))})
        for number in (1, 2):
            new = ("f", "number", {0: (old[2][0][0], old[2][0][1], ("jump", number, ())), number: old[2][number]})
            paper = {0: PAPER[0], number: self.told(number, 0, {"v0": "v0"})}
            self.assertEqual(self.judge(old, new, paper), (0, 1, "stands"))

    def test_idle_or_not(self):
        pure = [("v1", "plus", "v0", "v0")]
        old = numbers_code("f", {0: (["v0"], [], ("jump", 1, ())), 1: ([], [], ("return", "v0"), "still")})
        ring = numbers_code("f", {0: (["v0"], [], ("jump", 1, ())), 1: ([], pure, ("jump", 1, ()), "still")})
        self.assertEqual(self.judge(old, ring, {0: PAPER[0], 1: self.told(1, 1)}), (1, 2, "idle"))
        # Going over a try is something.
        tries = numbers_code("f", {
            0: (["v0"], [], ("jump", 1, ())), 1: ([], [], ("try", "g", ("v0",), 2, 3), "still"), 2: (["v2"], [], ("return", "v2")), 3: (["v3"], [], ("return", "v3")),
        })
        paper = {0: PAPER[0], 1: self.told(1, 1, {"v0": "v0"}), 2: self.told(2, 0, {"v2": "v2"}), 3: self.told(3, 0, {"v3": "v3"})}
        self.assertIsNone(self.judge(tries, tries, paper))
        # A late block that goes on from where it came back to does something by its back.
        back = context("back", ("f", 7, {}))
        old = ("f", "number", {0: ((("v0", "number"),), (context("mark", ("f", 0, {})), back, context("still", ("f", 7, {}))), ("return", "v0"))})
        new = ("f", "number", {
            0: (old[2][0][0], old[2][0][1][:1], ("jump", 1, ())), 1: ((), (back,), ("jump", 2, ())), 2: ((), (context("still", ("f", 7, {})),), ("return", "v0")),
        })
        paper = {0: PAPER[0], 1: self.told(0, 2, {"v0": "v0"}, late=True), 2: self.told(0, 2, {"v0": "v0"})}
        self.assertIsNone(self.judge(old, new, paper))
        self.assertEqual(self.judge(old, new, with_part(paper, 1, late=False)), (0, 1, "stands"))

    def test_what_is_not_known(self):
        # A parameter gets what has no term: it has none then, whatever it had.
        still = context("still", ("f", 1, {}))
        old = ("f", "number", {
            0: ((("v0", "number"),), (context("mark", ("f", 0, {})), ("v9", "const", 4)), ("jump", 1, ("v0",))),
            1: ((("v4", "number"),), (still, ("v5", "plus", "v9", "v9")), ("jump", 1, ("v5",))),
        })
        new = ("f", "number", {0: (old[2][0][0], old[2][0][1][:1], ("jump", 1, ("v0",))), 1: ((("v4", "number"),), (still,), ("jump", 1, ("v4",)))})
        self.assertEqual(self.judge(old, new, {0: PAPER[0], 1: self.told(1, 0, {"v4": "v4"})}), (1, 1, "equation"))
        self.assertIsNone(self.judge(old, new, {0: PAPER[0], 1: self.told(1, 0)}))
        # Frames that tell of it have no term either: only what is lost fits.
        marks = [context("mark", ("f", 1, {"x": told})) for told in ("v4", ("number", ("lost",)), ("number", ("is", 4)))]
        old = ("f", "number", {0: ((("v0", "number"),), (context("mark", ("f", 0, {})),), ("jump", 1, ("v0",))), 1: ((("v4", "number"),), marks[:1], ("fail", "v4"))})
        old[2][1] = ((("v4", "number"),), (marks[0],), ("jump", 1, ("v4",)))
        for mark, known, wanted in ((marks[0], True, None), (marks[0], False, (1, 0, "told")), (marks[1], False, None), (marks[2], False, (1, 0, "told")), (marks[2], True, (1, 0, "told"))):
            new = ("f", "number", {**old[2], 1: ((("v4", "number"),), (mark,), ("jump", 1, ("v4",)))})
            paper = {0: PAPER[0], 1: self.told(1, 0, {"v4": "v4"} if known else {})}
            self.assertEqual(self.judge(old, new, paper), wanted)

    def test_frames_ahead_of_an_anchor(self):
        # What a level tells by a place that was given again since has no term.
        old = ("f", "number", {0: ((("r0", "number"),), (context("mark", ("f", 0, {"x": "r0"})), ("r1", "copy", "r0"), ("r0", "const", 5)), ("return", "r0"))})
        for place, wanted in (("r0", (1, 0, "told")), ("r1", (1, 0, "told"))):
            still = context("still", ("f", 0, {"x": place}))
            new = ("f", "number", {0: (old[2][0][0], old[2][0][1], ("jump", 1, ())), 1: ((), (still,), ("return", "r0"))})
            self.assertEqual(self.judge(old, new, {0: self.told(0, 0, {"r0": "r0"}), 1: self.told(0, 3, {"r0": "r0", "r1": "r1"})}), wanted)
        # By another place that was not, it has one.
        old = ("f", "number", {0: (old[2][0][0], (old[2][0][1][1], context("mark", ("f", 0, {"x": "r1"})), ("r0", "const", 5)), ("return", "r0"))})
        old = ("f", "number", {0: (old[2][0][0], (context("still", ("f", 3, {})), *old[2][0][1]), ("return", "r0"))})
        for place, wanted in (("r0", (1, 0, "told")), ("r1", None)):
            still = context("still", ("f", 0, {"x": place}))
            new = ("f", "number", {0: (old[2][0][0], old[2][0][1], ("jump", 1, ())), 1: ((), (still,), ("return", "r0"))})
            self.assertEqual(self.judge(old, new, {0: self.told(0, 0, {"r0": "r0"}), 1: self.told(0, 4, {"r0": "r0", "r1": "r1"})}), wanted)

    def test_coming_back_over_quiet_rows(self):
        inner = numbers_code("h", {0: (["v0"], [("v1", "plus", "v0", "v0")], ("return", "v1"), "still")})
        called = numbers_code("g", {0: (["v0"], [("v1", "plus", "v0", "v0"), ("v2", "call", "h", ("v1",)), ("v3", "plus", "v2", "v0")], ("return", "v3"))})
        calling = numbers_code("f", {0: (["v0"], [("v1", "call", "g", ("v0",)), (None, "show", "v1")], ("return", "v0"))})
        codes = {"f": calling, "g": called, "h": inner}
        new, paper = stepped(F, {"f": calling, "g": called}, "f", ("inline", 0, 1))
        self.assertIsNone(self.judge(calling, new, paper, {"f": calling, "g": called}))
        # Here h is gone into by the old side, while the new one has its worth by itself.
        number = sorted(new[2])[1]
        parameters, rows, end = new[2][number]
        call = [at for at, row in enumerate(rows) if row[1] == "call"][0]
        place, _, _, (argument,) = rows[call]
        other = with_block(new, number, (parameters, (*rows[:call], (place, "plus", argument, argument), *rows[call + 1:]), end))
        # At the end of h the old side must come back, which the new side's jump into the late block asks once.
        self.assertEqual(self.judge(calling, other, paper, codes), (number, len(rows), "stands"))

    def test_coming_back_from_a_quiet_call(self):
        called = numbers_code("h", {0: (["v0"], [], ("return", "v0"), "still")})
        calling = numbers_code("f", {0: (["v0"], [("v1", "call", "h", ("v0",))], ("return", "v1"))})
        back = context("back", ("f", 0, {}))
        new = ("f", "number", {0: (calling[2][0][0], calling[2][0][1][:1], ("jump", 1, ())), 1: ((), (back,), ("return", "v0"))})
        paper = {0: PAPER[0], 1: self.told(0, 2, {"v0": "v0", "v1": "v0"}, late=True)}
        codes = {"f": calling, "h": called}
        self.assertIsNone(self.judge(calling, new, paper, codes))
        # Each back behind the first one is come to by the old side once more.
        self.assertEqual(self.judge(calling, with_rows(new, 1, [back, back]), paper, codes), (1, 1, "stands"))
        self.assertEqual(self.judge(calling, with_rows(new, 1, [back, back]), with_part(paper, 1, late=False), codes), (0, 1, "stands"))

    def test_what_moved_ahead_of_a_branch(self):
        old = ("f", "number", {0: ((("v0", "number"),), (context("mark", ("f", 0, {})),), ("jump", 1, ())), 1: ((), (context("still", ("f", 1, {})),), ("return", "v0"))})
        blocks = {0: old[2][0], 1: ((), old[2][1][1], ("branch", "v0", 2, 3)), 2: ((), old[2][1][1], ("return", "v0")), 3: ((), old[2][1][1], ("return", "v0"))}
        paper = {0: PAPER[0], 1: self.told(1, 0, {"v0": "v0"}), 2: self.told(1, 1, {"v0": "v0"}), 3: self.told(1, 1, {"v0": "v0"})}
        self.assertIsNone(self.judge(old, ("f", "number", blocks), paper))
        self.assertEqual(self.judge(old, ("f", "number", blocks), {**paper, 1: paper[2]}), (1, 1, "idle"))

    def test_quiet_rows_ahead_of_a_branch_count_on_its_ways(self):
        for many, wanted in ((498, None), (499, (0, 2, "stands"))):
            mark = context("mark", ("f", 5, {}))
            rows = [(f"v{at + 1}", "copy", "v0") for at in range(1500)] + [mark]
            more = [(f"v{at + 2000}", "copy", "v0") for at in range(many)]
            old = numbers_code("f", {
                0: (["v0"], rows, ("branch", "v0", 1, 2)), 1: ([], more, ("return", "v0"), "still"), 2: ([], [], ("return", "v0"), "still"),
            })
            new = numbers_code("f", {
                0: (["v0"], [mark], ("branch", "v0", 1, 2)), 1: ([], [], ("return", "v0"), "still"), 2: ([], [], ("return", "v0"), "still"),
            })
            # On the first way the branch, the still and the rows behind it are gone over, too.
            paper = {0: PAPER[0], 1: self.told(1, many + 1, {"v0": "v0"}), 2: self.told(2, 0, {"v0": "v0"})}
            self.assertEqual(self.judge(old, new, paper), wanted)


class Parted(unittest.TestCase):
    def check_run(self, scope, codes, code, paper, numbers, wanted):
        """Whether both sides, begun with these numbers at the refused block, show or end otherwise."""
        number = wanted[0]
        states = []
        anchor = paper[number][0][0]
        for told in (codes["f"], code):
            runner = Codes([], [told])
            held = kinds_at(told, scope, (number, 0))
            places = {place: numbers.get(place, 0) for place in held}
            if told is not code:
                for place, formula in anchor[3].items():
                    places[place] = formula[1] if formula[0] == "is" else formula[2] * numbers[formula[1]] + formula[3]
            state = ((("f", number, 0, places),), {}, (), None, 0)
            found = []
            for _ in range(60):
                state = runner.step(state)
                found.append((state[2], state[3]))
            states.append(found)
        ends = [found[-1] for found in states]
        shown = [end[0] for end in ends]
        short = min(len(told) for told in shown)
        self.assertTrue(shown[0][:short] != shown[1][:short] or ends[0][1] != ends[1][1], (code, numbers, wanted))

    def test_by_hand(self):
        def told(old_rows, new_rows, facts=(), end=("return", "v1")):
            old = numbers_code("f", {0: (["v0"], [("v1", "copy", "v0")], ("jump", 1, ("v0", "v0", "v0"))), 1: (["v5", "v6", "v7"], old_rows, end)})
            new = numbers_code("f", {0: (["v0"], [("v1", "copy", "v0")], ("jump", 1, ("v0", "v0", "v0"))), 1: (["v5", "v6", "v7"], new_rows, end)})
            paper = with_part(beside(old, new, F), 1, facts=facts)
            return judge(F, {"f": old}, new, paper), parted(F, {"f": old}, new, paper)

        times, turned = ("v8", "times", "v5", "v6"), ("v8", "times", "v5", "v7")
        show = (None, "show", "v8")
        wrong, numbers = told([times, show], [turned, show])
        self.assertEqual(wrong, (1, 2, "terms"))
        self.assertEqual(list(numbers), ["v0", "v1", "v5", "v6", "v7"])
        self.assertNotEqual(numbers["v5"] * numbers["v6"], numbers["v5"] * numbers["v7"])
        # By facts v7 is 3 less than v6.
        facts = (("v1", "const", 3), ("v7", "minus", "v6", "v1"))
        wrong, numbers = told([times, show], [turned, show], facts)
        self.assertEqual(wrong, (0, 2, "fact"))
        # From block 0 the fact's terms part.
        self.assertEqual(list(numbers), ["v0"])
        self.assertNotEqual(numbers["v0"], 3)
        # What goes ahead, and what the terms are of, may keep all from being told.
        over = ("v9", "over", "v5", "v6")
        self.assertIsNone(told([over, times, show], [over, turned, show])[1])
        self.assertIsNotNone(told([show_of("v5"), times, show], [show_of("v5"), turned, show])[1])
        self.assertIsNone(told([("v8", "less", "v5", "v6"), show], [("v8", "less", "v6", "v5"), show])[1])
        self.assertIsNone(told([("v8", "call", "g", ("v5",)), show], [("v8", "call", "g", ("v5",)), show_of("v5")])[1])

    def test_ends(self):
        old = {word: numbers_code("f", {0: (["v0"], [("v1", "const", 2), ("v2", "times", "v0", "v1")], (word, "v2"))}) for word in ("return", "fail")}
        for word in old:
            new = numbers_code("f", {0: (["v0"], [("v1", "const", 2), ("v2", "times", "v0", "v0")], (word, "v2"))})
            self.assertEqual(judge(F, {"f": old[word]}, new, {0: PAPER[0]}), (0, 3, "terms"))
            number = parted(F, {"f": old[word]}, new, {0: PAPER[0]})["v0"]
            self.assertNotEqual(2 * number, number * number)
        tries = [numbers_code("f", {
            0: (["v0"], [("v1", "const", at), ("v2", "times", "v0", "v1")], ("try", "g", ("v2",), 1, 2)), 1: (["v3"], [], ("return", "v3")), 2: (["v4"], [], ("return", "v4")),
        }) for at in (3, 4)]
        self.assertNotEqual(parted(F, {"f": tries[0]}, tries[1], beside(*tries, F))["v0"], 0)

    def test_facts_hold(self):
        """Numbers are told for all places of the facts, by which these hold."""
        rows = [("v1", "const", 4), ("v2", "copy", "v0"), ("v3", "minus", "v1", "v0"), ("v4", "less", "v0", "v1"), ("v5", "not", "v4"), ("v6", "same", "v2", "v0"),
                ("v7", "times", "v3", "v3")]
        old = numbers_code("f", {0: (["v0"], rows, ("jump", 1, ("v0",))), 1: (["v8"], [], ("jump", 1, ("v8",)))})
        for read, other in (("v8", "v3"), ("v7", "v8"), ("v8", "v1"), ("v2", "v3")):
            one, two = [with_rows(old, 1, [*old[2][1][1], (None, "show", place)]) for place in (read, other)]
            paper = with_part(beside(one, two, F), 1, facts=tuple(rows))
            self.assertEqual(judge(F, {"f": one}, two, paper), (1, 1, "terms"))
            told = parted(F, {"f": one}, two, paper)
            self.assertEqual(list(told), [f"v{at}" for at in range(9)])
            self.assertNotEqual(told[read], told[other])
            self.assertEqual((told["v1"], told["v2"], told["v3"]), (4, told["v0"], 4 - told["v0"]))
            self.assertEqual((told["v4"], told["v5"], told["v6"]), (int(told["v0"] < 4), int(told["v0"] >= 4), 1))
            self.assertEqual(told["v7"], told["v3"] ** 2)

    def test_facts_of_boxes(self):
        start = ((("v0", "number"), ("v1", "number")), (context("mark", ("f", 0, {})), ("v2", "make", "v", ())), ("jump", 1, ()))
        one, two = [("f", "number", {0: start, 1: ((), (context("mark", ("f", 1, {})), (None, "show", place)), ("return", "v0"))}) for place in ("v0", "v1")]
        paper = beside(one, two, SORTS_SCOPE)
        self.assertEqual(judge(SORTS_SCOPE, {"f": one}, two, paper), (1, 1, "terms"))
        told = parted(SORTS_SCOPE, {"f": one}, two, paper)
        self.assertEqual((list(told), told["v0"] != told["v1"]), (["v0", "v1"], True))
        self.assertIsNone(parted(SORTS_SCOPE, {"f": one}, two, with_part(paper, 1, facts=(("v2", "make", "v", ()),))))

    def test_no_numbers(self):
        # Nothing is refused; something else than terms is; something was assumed; a way of a try.
        self.assertIsNone(parted(F, {"f": OLD}, OLD, PAPER))
        code = with_rows(OLD, 0, [context("mark", ("f", 7, {})), *OLD[2][0][1][1:]])
        self.assertIsNone(parted(F, {"f": OLD}, code, PAPER))
        wrong = with_part(PAPER, 2, anchor=(("f", 2, 0, {"v5": ("of", "v4", 1, 0)}),))
        self.assertEqual(judge(F, {"f": OLD}, OLD, wrong), (1, 3, "equation"))
        self.assertIsNone(parted(F, {"f": OLD}, OLD, wrong))
        # On one way of a branch that is not decided.
        plain = numbers_code("f", {0: (["v0"], [("v1", "copy", "v0")], ("branch", "v0", 1, 2)), 1: ([], [], ("return", "v0")), 2: ([], [], ("return", "v1"))})
        paper = with_part(same_paper(plain, F), 1, anchor=(("f", 1, 0, {"v1": ("is", 3), "v0": ("of", "v0", 1, 0)}),))
        self.assertEqual(judge(F, {"f": plain}, plain, paper), (0, 2, "equation"))
        self.assertIsNone(parted(F, {"f": plain}, plain, paper))
        decided = numbers_code("f", {0: (["v0"], [("v1", "const", 1)], ("branch", "v1", 1, 2)), 1: ([], [], ("return", "v0")), 2: ([], [], ("return", "v1"))})
        paper = with_part(same_paper(decided, F), 1, anchor=(("f", 1, 0, {"v1": ("of", "v0", 1, 0), "v0": ("of", "v0", 1, 0)}),))
        self.assertEqual(judge(F, {"f": decided}, decided, paper), (0, 2, "equation"))
        self.assertNotEqual(parted(F, {"f": decided}, decided, paper)["v0"], 1)

    def test_random(self):
        """Codes with one thing otherwise: what is let runs alike, and what is parted differs."""
        rng = random.Random(11)
        refused, let, parts = 0, 0, 0
        while refused + let < 150:
            old, taken = random_code(rng)
            scope = Scope([], {"f": (("number",) * taken, "number")})
            for _ in range(12):
                code = bent_code(rng, old)
                if code == old or not is_named(code, scope):
                    continue
                paper = beside(old, code, scope)
                wanted = judge(scope, {"f": old}, code, paper)
                if wanted is None:
                    let += 1
                    self.check_alike(old, code, taken, rng)
                    continue
                refused += 1
                numbers = parted(scope, {"f": old}, code, paper)
                if numbers is not None:
                    self.assertEqual(list(numbers), list(kinds_at(code, scope, (wanted[0], 0))))
                    if wanted[2] == "terms" and old[2][wanted[0]][2][0] != "try":
                        parts += 1
                        self.check_run(scope, {"f": old}, code, paper, numbers, wanted)
        self.assertGreater(let, 10)
        self.assertGreater(parts, 2)

    def check_alike(self, old, code, taken, rng):
        runners = [Codes([], [told]) for told in (old, code)]
        for _ in range(2):
            arguments = [rng.randint(-3, 4) for _ in range(taken)]
            one, other = [led(runner, "f", arguments, 70) for runner in runners]
            short = min(len(one[0]), len(other[0]))
            self.assertEqual(one[0][:short], other[0][:short])
            if ("cut",) not in (one[1], other[1]):
                self.assertEqual(one[:2], other[:2])


def show_of(place):
    return None, "show", place


def bent_code(rng, code):
    """A code with one row or end otherwise, maybe doing the same."""
    number = rng.choice(list(code[2]))
    parameters, rows, end = code[2][number]
    given = [place for block in code[2].values() for place in [p for p, _ in block[0]] + [r[0] for r in block[1] if r[0]]]
    at = rng.randrange(len(rows) + 1)
    if at == len(rows):
        other = tuple(turned_part(rng, part, given) for part in end)
        return with_block(code, number, (parameters, rows, other))
    row = rows[at]
    if row[1] in ("mark", "still"):
        row = (None, "still", row[2]) if rng.random() < 0.2 else row
        variables = tuple((n, k, rng.choice([f, ("of", rng.choice(given), 1, 0), ("is", 1)])) for n, k, f in row[2][0][2])
        row = (None, row[1], ((*row[2][0][:2], variables),))
    elif row[1] in ("plus", "less") and rng.random() < 0.5:
        row = (*row[:2], row[3], row[2])
    else:
        row = (row[0], row[1], *[turned_part(rng, part, given) for part in row[2:]])
    return with_block(code, number, (parameters, (*rows[:at], row, *rows[at + 1:]), end))


def turned_part(rng, part, given):
    if isinstance(part, tuple):
        return tuple(turned_part(rng, inner, given) for inner in part)
    if part in given and rng.random() < 0.6:
        return rng.choice(given)
    return part


class Whole(unittest.TestCase):
    def test_steps_are_let(self):
        rng = random.Random(21)
        met = {word: 0 for word in WORDS}
        for program in sound_programs(rng, 3, 2):
            kinds, codes = kinds_and_codes(program)
            scope = scope_of_codes(kinds, list(codes.values()))
            for name in codes:
                for word in WORDS:
                    steps = steps_of(scope, codes, name, word)
                    for step in rng.sample(steps, min(2, len(steps))):
                        new, paper = stepped(scope, codes, name, step)
                        self.assertTrue(is_paper(scope, codes, new, paper))
                        self.assertIsNone(judge(scope, codes, new, paper), step)
                        met[word] += 1
            current = dict(codes)
            for new, paper in lean(scope, codes)[1]:
                self.assertIsNone(judge(scope, current, new, paper))
                met["alike"] += 1
                current[new[0]] = new
        self.assertGreater(min(met[word] for word in ("fold", "same", "alike", "spare", "dead", "hoist", "inline")), 0)

    def test_steps_of_random_codes_are_let(self):
        rng = random.Random(22)
        met = {word: 0 for word in WORDS}
        for _ in range(40):
            code, taken = random_code(rng)
            scope = Scope([], {"f": (("number",) * taken, "number")})
            codes = {"f": code}
            for _ in range(8):
                words = [word for word in rng.sample(WORDS, len(WORDS)) if steps_of(scope, codes, "f", word)]
                if not words:
                    break
                step = rng.choice(steps_of(scope, codes, "f", words[0]))
                new, paper = stepped(scope, codes, "f", step)
                self.assertIsNone(judge(scope, codes, new, paper), step)
                met[words[0]] += 1
                codes = {"f": new}
        self.assertGreater(min(met[word] for word in WORDS if word not in ("inline", "twins")), 5)

    def test_one_thing_more(self):
        # The fact of point 66, and the same with the second change wrong.
        codes = {"f": OLD}
        rows = [("f", ("hoist", 3, 1, 0)), ("f", ("fold", 0, 2))][:1] + [("f", ("hoist", 3, 1, 1))]
        made, changes = rewritten(F, codes, rows)
        self.assertIsNone(judge_all(F, codes, changes))
        new, paper = changes[1]
        wrong = with_part(paper, 1, facts=(("v1", "const", 9),))
        self.assertEqual(judge_all(F, codes, [changes[0], (new, wrong)]), (1, 0, len(new[2][0][1]), "fact"))
        self.assertEqual(judge(F, {"f": changes[0][0]}, new, wrong), (0, len(new[2][0][1]), "fact"))
        self.assertIsNone(judge_all(F, codes, []))
        self.assertIsNone(judge_all(F, codes, tuple(changes)))

    def test_placed_codes(self):
        new, paper = placed_code(OLD, 6)
        self.assertIsNone(judge(F, {"f": OLD}, new, paper))
        # A placed code beside itself, and with one row otherwise.
        own = same_paper(new, F)
        self.assertIsNone(judge(F, {"f": new}, new, own))
        rows = new[2][0][1]
        for at, row in enumerate(rows):
            if row[1] == "const":
                bent = with_rows(new, 0, rows[:at] + ((*row[:2], 3),) + rows[at + 1:])
                self.assertEqual(judge(F, {"f": new}, bent, own)[2], "terms")
                self.assertEqual(judge(F, {"f": OLD}, bent, paper)[2], "terms")
        # A register is forgotten by a call, on both sides.
        calling = ("f", "number", {0: ((("r0", "number"),), (
            context("mark", ("f", 0, {"x": "r0"})), ("s0", "copy", "r0"), ("r0", "call", "g", ("r0",)), context("still", ("f", 1, {"x": "s0", "y": "r0"})),
        ), ("return", "r0"))})
        self.assertIsNone(judge(F, {"f": calling}, calling, same_paper(calling, F)))
        other = with_rows(calling, 0, [*calling[2][0][1][:3], ("r1", "copy", "s0"), context("still", ("f", 1, {"x": "r1", "y": "r0"}))])
        self.assertIsNone(judge(F, {"f": calling}, other, same_paper(other, F)))
        self.assertEqual(judge(F, {"f": other}, with_rows(other, 0, other[2][0][1], ("return", "r0")), same_paper(other, F)), None)


class WrongInputs(unittest.TestCase):
    def test_scope_codes_code(self):
        for thing in odd_values():
            if not isinstance(thing, Scope):
                for call in (lambda: judge(thing, 0, 0, 0), lambda: parted(thing, 0, 0, 0), lambda: is_paper(thing, 0, 0, 0), lambda: judge_all(thing, 0, 0)):
                    self.assertRaises(BadScope, call)
        placed, _ = placed_code(OLD, 6)
        other = numbers_code("g", {0: (["v0"], [], ("return", "v0"))})
        bad = [thing for thing in odd_values() if thing != {}] + [{"g": OLD}, {"f": OLD, "g": placed_code(other, 6)[0]}, {"f": OLD, 0: OLD}, {"f": ()}, [OLD]]
        for thing in bad:
            for call in (lambda: judge(F, thing, 0, 0), lambda: parted(F, thing, 0, 0), lambda: is_paper(F, thing, 0, 0), lambda: judge_all(F, thing, 0)):
                with self.assertRaises(BadCodes) as caught:
                    call()
                self.assertIsNone(caught.exception.at)
        for thing in odd_values() + [other, OLD[:2]]:
            for call in (judge, parted, is_paper):
                self.assertRaises(BadCode, call, F, {"f": OLD}, thing, 0)
        self.assertRaises(BadCode, judge, F, {}, OLD, PAPER)
        for thing in odd_values() + [with_part(PAPER, 0, late=True)]:
            self.assertRaises(BadPaper, judge, F, {"f": OLD}, OLD, thing)
            self.assertRaises(BadPaper, parted, F, {"f": OLD}, OLD, thing)

    def test_changes(self):
        right = (OLD, PAPER)
        for thing, at in (
            (0, None), ({}, None), ("", None), ([right] * 61, None), ([right, (OLD,)], 1), ([right, [OLD, PAPER]], 1), ([0], 0), ([(OLD, 0)], 0),
            ([right, right, (0, PAPER)], 2), ([(numbers_code("g", {0: (["v0"], [], ("return", "v0"))}), PAPER)], 0),
        ):
            with self.assertRaises(BadChanges) as caught:
                judge_all(F, {"f": OLD}, thing)
            self.assertEqual(caught.exception.at, at)
        self.assertIsNone(judge_all(F, {"f": OLD}, [right] * 60))
        # Codes of two levels.
        placed = placed_code(OLD, 6)
        other = numbers_code("g", {0: (["v0"], [], ("return", "v0"))})
        self.assertIsNone(judge_all(F, {"f": OLD}, [right, placed]))
        with self.assertRaises(BadChanges) as caught:
            judge_all(F, {"f": OLD, "g": other}, [right, placed])
        self.assertEqual(caught.exception.at, 1)
        # A paper for codes as they were ahead.
        with self.assertRaises(BadChanges) as caught:
            judge_all(F, {"f": OLD}, [placed, placed])
        self.assertEqual(caught.exception.at, 1)
        # A wrong item is told ahead of what is refused.
        wrong = with_rows(OLD, 2, OLD[2][2][1], ("return", "v0"))
        with self.assertRaises(BadChanges) as caught:
            judge_all(F, {"f": OLD}, [(wrong, PAPER), 0])
        self.assertEqual(caught.exception.at, 1)


if __name__ == "__main__":
    unittest.main()
