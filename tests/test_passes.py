"""Points 65, 66 and 68: rows of steps, what settles, what is lost, and the compiler's own way."""

import random
import unittest

from code_tools import context, kinds_and_codes, numbers_code, sound_programs, starts_of
from odd_values import as_bool, as_list, changed, odd_values
from paper_runs import check_form, check_paper
from random_codes import random_code
from stopanywhere.errors import BadCode, BadCodes, BadRows, BadScope, BadWord, NoFunction
from stopanywhere.forms import Scope, is_named, scope_of_codes
from stopanywhere.passes import lean, lost_in, rewritten, settled
from stopanywhere.plain import Program, fits, told_run
from stopanywhere.runner import Codes
from stopanywhere.steps import refusal, stepped, steps_of
from stopanywhere.texts import read_unit
from stopanywhere.walks import walk
from stopanywhere.ways import kinds_at
from test_forms import NAMED, PLACED, SCOPE
from test_steps import Hoist, Merge
from test_steps import SCOPE as STEP_SCOPE

WORDS = ("fold", "same", "alike", "twins", "spare", "dead", "hoist", "merge", "inline")
LEAN = ["inline", "fold", "same", "alike", "twins", "merge", "spare", "dead"]


class Case(unittest.TestCase):
    def same_runs(self, kinds, codes, program, function, arguments, steps=700, events=500):
        """Outputs, ends with traces and as many events as the plain run, each moment fits; told as far as both go."""
        outputs, end, moments = walk(Codes(kinds, list(codes.values())), function, arguments, steps)
        told = told_run(program, function, arguments, events)
        for one, other in zip(moments, told[2]):
            self.assertTrue(fits(one, other), (one, other))
        if ("cut",) in (end, told[1]):
            many = min(len(outputs), len(told[0]))
            self.assertEqual(outputs[:many], told[0][:many])
        else:
            self.assertEqual((outputs, end, len(moments)), (told[0], told[1], len(told[2])))

    def at_kinds(self, scope):
        return lambda code, spot: kinds_at(code, scope, spot)


class Rewritten(Case):
    def test_random_steps(self):
        rng = random.Random(101)
        seen, asked = {}, 0
        for program in sound_programs(rng, 14):
            kinds, codes = kinds_and_codes(program)
            scope = scope_of_codes(kinds, list(codes.values()))
            first, rows, told = codes, [], []
            for _ in range(14):
                name = rng.choice(sorted(codes))
                steps = steps_of(scope, codes, name, rng.choice(WORDS + ("inline", "spare", "alike")))
                if steps:
                    step = rng.choice(steps)
                    rows.append((name, step))
                    seen[step[0]] = seen.get(step[0], 0) + 1
                    code, paper = stepped(scope, codes, name, step)
                    self.assertTrue(is_named(code, scope))
                    told.append((code, paper))
                    check_form(self, scope, codes, name, code, paper, self.at_kinds(scope))
                    starts = starts_of(program, rng)
                    for function, arguments in rng.sample(starts, 1):
                        asked += check_paper(self, kinds, codes, name, code, paper, function, arguments, 40, self.at_kinds(scope))
                    codes = {**codes, name: code}
            self.assertEqual(rewritten(scope, first, rows), (codes, told))
            for function, arguments in starts_of(program, rng):
                self.same_runs(kinds, codes, program, function, arguments)
        self.assertGreater(min(seen[word] for word in ("fold", "same", "spare", "dead", "hoist", "inline")), 2)
        self.assertGreater(asked, 1000)

    def test_codes_with_joins(self):
        rng = random.Random(102)
        seen, asked = {}, 0
        for _ in range(70):
            code, taken = random_code(rng)
            scope = Scope([], {"f": (("number",) * taken, "number")})
            first = {"f": code}
            codes, rows = dict(first), []
            for _ in range(6):
                steps = steps_of(scope, codes, "f", rng.choice(WORDS[:8] + ("twins", "alike")))
                if steps:
                    step = rng.choice(steps)
                    rows.append(("f", step))
                    seen[step[0]] = seen.get(step[0], 0) + 1
                    found, paper = stepped(scope, codes, "f", step)
                    check_form(self, scope, codes, "f", found, paper, self.at_kinds(scope))
                    arguments = [1, rng.randint(-2, 2), 0][:taken]
                    asked += check_paper(self, [], codes, "f", found, paper, "f", arguments, 40, self.at_kinds(scope))
                    codes = {"f": found}
            self.assertEqual(rewritten(scope, first, rows)[0], codes)
            for arguments in ([1, 0, -1], [0, 2, 2]):
                # Steps of the rewritten code may be fewer or more; moments are as many as events.
                one = walk(Codes([], [code]), "f", arguments[:taken], 150)
                other = walk(Codes([], list(codes.values())), "f", arguments[:taken], 150)
                for moment, plain in zip(other[2], one[2]):
                    self.assertTrue(fits(moment, plain))
                many = min(len(one[0]), len(other[0]))
                self.assertEqual(one[0][:many], other[0][:many])
        self.assertEqual(set(seen), set(WORDS[:8]))
        self.assertGreater(asked, 1000)

    def test_no_steps(self):
        codes = {"f": Hoist.CODE}
        found = rewritten(scope=STEP_SCOPE, codes=codes, rows=[])
        self.assertEqual(found, (codes, []))
        self.assertIsNot(found[0], codes)
        self.assertIsNot(found[0]["f"][2], codes["f"][2])
        self.assertEqual(rewritten(STEP_SCOPE, {}, ()), ({}, []))

    def test_by_hand(self):
        codes = {"g": numbers_code("g", {0: (["v0"], [], ("return", "v0"))}), "f": Merge.CODE}
        rows = [("f", ("merge", 9)), ("f", ("merge", 2)), ("f", ("spare", 4, 0))]
        self.assertEqual(refusal(STEP_SCOPE, codes, "f", rows[2][1]), ("read", (4, 1)))
        one, paper = stepped(STEP_SCOPE, codes, "f", rows[0][1])
        two, other = stepped(STEP_SCOPE, {**codes, "f": one}, "f", rows[1][1])
        found = rewritten(STEP_SCOPE, codes, rows[:2])
        self.assertEqual(found, ({"f": two, "g": codes["g"]}, [(one, paper), (two, other)]))
        self.assertEqual(list(found[0]), ["f", "g"])
        for wrong, at in (
            (rows, 2), ([rows[0], rows[0]], 1), ([("g", ("merge", 0)), rows[0]], 0), (rows[:2] + [("h", ("merge", 9))], 2), ([rows[0], ["f", ("merge", 2)]], 1),
            ([rows[0], ("f", ("merge", 2), 0)], 1), ([("f", ("merge",)), None], 0), ([rows[0], ("f", None)], 1), ([(None, ("merge", 9))], 0), ([(["f"], ("merge", 9))], 0),
            ([("f", ("merge", 9.0))], 0), ([rows[0], rows[1], 5, None], 2), ([rows[1], rows[0], rows[0], 7], 2),
        ):
            with self.assertRaises(BadRows) as caught:
                rewritten(STEP_SCOPE, codes, wrong)
            self.assertEqual(caught.exception.at, at, wrong)

    def test_sixty_rows(self):
        rows = [(f"v{at}", "const", at) for at in range(1, 63)]
        codes = {"f": numbers_code("f", {0: (["v0"], rows, ("return", "v0"))})}
        scope = Scope([], {"f": (("number",), "number")})
        steps = [("f", ("dead", 0, 1))] * 61
        found, changes = rewritten(scope, codes, steps[:60])
        self.assertEqual((len(changes), len(found["f"][2][0][1])), (60, 3))
        for wrong in (steps, steps + [None]):
            with self.assertRaises(BadRows) as caught:
                rewritten(scope, codes, wrong)
            self.assertIsNone(caught.exception.at)

    def test_wrong_rows(self):
        codes = {"f": Hoist.CODE}
        for thing in odd_values():
            with self.assertRaises(BadRows) as caught:
                rewritten(STEP_SCOPE, codes, [("f", ("hoist", 4, 1, 0)), thing])
            self.assertEqual(caught.exception.at, 1)
            if not (isinstance(thing, (list, tuple)) and len(thing) == 0):
                with self.assertRaises(BadRows) as caught:
                    rewritten(STEP_SCOPE, codes, thing)
                self.assertEqual(caught.exception.at, 0 if isinstance(thing, (list, tuple)) else None)
        for turn in (as_list, as_bool):
            for other in changed([("f", ("hoist", 4, 1, 0))], turn):
                if other != [["f", ("hoist", 4, 1, 0)]] and isinstance(other, list) and other != [("f", ("hoist", 4, 1, 0))]:
                    self.assertRaises(BadRows, rewritten, STEP_SCOPE, codes, other)
        self.assertRaises(BadRows, rewritten, STEP_SCOPE, codes, [("f", ("hoist", 4, True, 0))])
        self.assertRaises(BadRows, rewritten, STEP_SCOPE, codes, [("f", ("hoist", 4, 1, False))])


class Settled(Case):
    def test_the_first_step_of_the_first_word(self):
        rng = random.Random(103)
        many = 0
        for program in sound_programs(rng, 10):
            kinds, codes = kinds_and_codes(program)
            scope = scope_of_codes(kinds, list(codes.values()))
            name = min(codes, key=lambda key: sum(len(block[1]) for block in codes[key][2].values()))
            words = rng.sample(WORDS, rng.randint(1, 4))
            if "inline" in words:
                words.remove("inline")
            found = settled(scope, codes, name, words)
            for step in found[:15]:
                firsts = [steps_of(scope, codes, name, word)[:1] for word in words]
                self.assertEqual(step, [steps for steps in firsts if steps][0][0])
                codes = {**codes, name: stepped(scope, codes, name, step)[0]}
                many += 1
            if len(found) <= 15:
                self.assertTrue(all(steps_of(scope, codes, name, word) == [] for word in words))
        self.assertGreater(many, 30)

    def test_it_ends_in_any_order(self):
        rng = random.Random(104)
        for program in sound_programs(rng, 6):
            kinds, codes = kinds_and_codes(program)
            scope = scope_of_codes(kinds, list(codes.values()))
            for name in codes:
                if sum(len(block[1]) for block in codes[name][2].values()) < 40:
                    words = list(WORDS)
                    rng.shuffle(words)
                    steps = settled(scope=scope, codes=codes, name=name, words=words)
                    after = codes
                    for step in steps:
                        after = {**after, name: stepped(scope, after, name, step)[0]} if len(steps) < 25 else after
                    if len(steps) < 25:
                        self.assertTrue(all(steps_of(scope, after, name, word) == [] for word in WORDS))

    def test_by_hand(self):
        codes = {"f": Hoist.CODE}
        self.assertEqual(settled(STEP_SCOPE, codes, "f", []), [])
        self.assertEqual(settled(STEP_SCOPE, codes, "f", ()), [])
        self.assertEqual(settled(STEP_SCOPE, codes, "f", ["hoist"]), [
            ("hoist", 3, 1, 0), ("hoist", 4, 1, 0), ("hoist", 6, 2, 4), ("hoist", 6, 2, 4), ("hoist", 6, 2, 0),
        ])
        self.assertEqual(settled(STEP_SCOPE, codes, "f", ("dead", "hoist"))[0], ("dead", 6, 4))
        self.assertEqual(settled(STEP_SCOPE, codes, "f", ("merge", "fold")), [])

    def test_words(self):
        codes = {"f": Hoist.CODE}
        for thing in odd_values() + [["fold", "fold"], ["folds"], "fold", ["fold", None], {"fold": 1}, [["fold"]], ["fold", "dead", "fold"], [("fold",)]]:
            if not (isinstance(thing, (list, tuple)) and len(thing) == 0):
                self.assertRaises(BadWord, settled, STEP_SCOPE, codes, "f", thing)
        self.assertEqual(settled(STEP_SCOPE, codes, "f", ["merge"]), [])


class LostIn(Case):
    def test_by_hand(self):
        self.assertEqual(lost_in(scope=SCOPE, code=NAMED), 1)
        lost = ("number", ("lost",))
        kinds = [("choice", "c", (("w", ("number",)),))]
        code = ("f", "number", {
            0: ((("v0", "number"),), (context("mark", ("f", 0, {"a": lost, "b": "v0", "c": lost}), ("g", 0, {"a": lost, "z": ("c", ("lost",))})),
                                     context("still", ("f", 0, {"a": lost})), context("back", ("f", 0, {"a": ("c", ("make", "w", (("lost",),)))}))),
                ("jump", 1, ())),
            1: ((), (context("still", ("f", 0, {"a": ("number", ("is", 0)), "e": lost})),), ("return", "v0")),
        })
        self.assertEqual(lost_in(Scope(kinds, {"f": (("number",), "number")}), code), 6)
        self.assertEqual(lost_in(STEP_SCOPE, Hoist.CODE), 0)

    def test_named_codes_lose_nothing(self):
        rng = random.Random(105)
        for program in sound_programs(rng, 5):
            kinds, codes = kinds_and_codes(program)
            scope = scope_of_codes(kinds, list(codes.values()))
            self.assertEqual([lost_in(scope, code) for code in codes.values()], [0] * len(codes))


class Lean(Case):
    def test_programs(self):
        rng = random.Random(106)
        many = 0
        for program in sound_programs(rng, 8):
            kinds, codes = kinds_and_codes(program)
            scope = scope_of_codes(kinds, list(codes.values()))
            found, changes = lean(scope, codes)
            self.assertEqual(list(found), sorted(codes))
            many += len(changes)
            for code in found.values():
                self.assertTrue(is_named(code, scope))
            for name in found:
                for word in LEAN[1:]:
                    self.assertEqual(steps_of(scope, found, name, word), [])
            for function, arguments in starts_of(program, rng):
                self.same_runs(kinds, found, program, function, arguments)
        self.assertGreater(many, 100)

    def test_each_function_by_the_codes_as_they_are(self):
        rng = random.Random(107)
        for program in sound_programs(rng, 6):
            kinds, codes = kinds_and_codes(program)
            scope = scope_of_codes(kinds, list(codes.values()))
            found, changes = lean(scope=scope, codes=codes)
            told, now = [], codes
            for name in sorted(codes):
                for step in settled(scope, now, name, LEAN)[:70]:
                    code, paper = stepped(scope, now, name, step)
                    told.append((code, paper))
                    now = {**now, name: code}
                if len(told) > len(changes) or changes[:len(told)] != told or len(told) >= 70:
                    break
            self.assertEqual(changes[:len(told)], told)
            if len(told) < 70:
                self.assertEqual((found, changes), (now, told))

    def test_by_hand(self):
        unit = read_unit("unit u function g(n) { let a = n + 1 return a * 1 } function f(n) { let b = g(n) if 1 < 2 { show b } return g(n) - b }")
        program = Program([unit])
        kinds, codes = kinds_and_codes(program)
        scope = scope_of_codes(kinds, list(codes.values()))
        found, changes = lean(scope, codes)
        self.assertEqual(list(found["f"][2]), [0])
        rows = [row for row in found["f"][2][0][1] if row[1] not in ("mark", "back", "still")]
        # n + 1 is worked out once; its difference from itself is 0.
        self.assertEqual([row[1] for row in rows], ["const", "plus", "show", "const"])
        self.assertEqual(found["f"][2][0][2], ("return", rows[3][0]))
        points = [row[2][-1][:2] for row in found["f"][2][0][1] if row[1] == "mark"]
        self.assertEqual(points, [("f", 0), ("g", 0), ("g", 1), ("f", 1), ("f", 2), ("f", 3), ("g", 0), ("g", 1)])
        for number in (-3, 0, 7):
            self.same_runs(kinds, found, program, "f", [number])
        self.assertEqual(lean(scope, {}), ({}, []))

    def test_a_ring_that_goes(self):
        """c calls b where nothing leads once its branch is folded: then there is no ring of b any more."""
        scope = Scope([], {name: (("number",), "number") for name in "bcd"})
        codes = {
            "b": numbers_code("b", {0: (["v0"], [("v1", "call", "c", ("v0",))], ("return", "v1"))}),
            "c": numbers_code("c", {0: (["v0"], [("v1", "const", 0)], ("branch", "v1", 3, 4)),
                                    3: ([], [("v2", "call", "b", ("v0",))], ("return", "v2")), 4: ([], [], ("return", "v0"))}),
            "d": numbers_code("d", {0: (["v0"], [("v1", "call", "b", ("v0",))], ("return", "v1"))}),
        }
        self.assertEqual(refusal(scope, codes, "d", ("inline", 0, 1)), ("ring", ("b", "c", "b")))
        found, changes = lean(scope, codes)
        calls = {name: [row for _, rows, _ in code[2].values() for row in rows if row[1] == "call"] for name, code in found.items()}
        # When b's turn came, there was a ring; behind it d takes in b, and c with it.
        self.assertEqual({name: len(rows) for name, rows in calls.items()}, {"b": 1, "c": 0, "d": 0})
        after, _ = rewritten(scope, codes, [("c", ("fold", 0, 2)), ("d", ("inline", 0, 1))])
        self.assertIsNone(refusal(scope, after, "d", ("inline", 1, 1)))
        steps = settled(scope, {**codes, "c": found["c"]}, "d", ["inline"])
        self.assertEqual([step[0] for step in steps], ["inline", "inline"])

    def test_more_than_sixty_changes(self):
        rows = [(f"v{at}", "const", at) for at in range(1, 90)]
        codes = {"f": numbers_code("f", {0: (["v0"], rows, ("return", "v0"))})}
        found, changes = lean(Scope([], {"f": (("number",), "number")}), codes)
        self.assertEqual(len(changes), 89)
        self.assertEqual(found["f"], numbers_code("f", {0: (["v0"], [], ("return", "v0"))}))
        self.assertEqual(changes[-1][0], found["f"])


class WrongValues(Case):
    def test_scopes_codes_and_names(self):
        for call in (
            lambda scope, codes: rewritten(scope, codes, None), lambda scope, codes: settled(scope, codes, None, None), lean,
        ):
            for thing in odd_values():
                if not isinstance(thing, Scope):
                    self.assertRaises(BadScope, call, thing, None)
                if not (isinstance(thing, dict) and not thing):
                    with self.assertRaises(BadCodes) as caught:
                        call(STEP_SCOPE, thing)
                    self.assertEqual(caught.exception.at, "a" if isinstance(thing, dict) and "a" in thing else None)
                with self.assertRaises(BadCodes) as caught:
                    call(STEP_SCOPE, {"f": Hoist.CODE, "b": thing, "z": None})
                self.assertEqual(caught.exception.at, "b")
        for thing in odd_values() + ["g"]:
            with self.assertRaises(NoFunction) as caught:
                settled(STEP_SCOPE, {"f": Hoist.CODE}, thing, None)
            self.assertEqual(repr(caught.exception.name), repr(thing))
            if not isinstance(thing, Scope):
                self.assertRaises(BadScope, lost_in, thing, None)
            self.assertRaises(BadCode, lost_in, SCOPE, thing)
        self.assertRaises(BadCode, lost_in, SCOPE, PLACED)

    def test_what_is_returned_is_new(self):
        rng = random.Random(108)
        for program in sound_programs(rng, 2):
            kinds, codes = kinds_and_codes(program)
            scope = scope_of_codes(kinds, list(codes.values()))
            before = repr(codes)
            found, changes = lean(scope, codes)
            dicts = [id(code[2]) for code in list(codes.values()) + list(found.values()) + [code for code, _ in changes]]
            for _, paper in changes:
                dicts.append(id(paper))
                for anchor, _, _ in paper.values():
                    dicts.extend(id(level[3]) for level in anchor)
            self.assertEqual(len(dicts), len(set(dicts)))
            self.assertEqual(repr(codes), before)


if __name__ == "__main__":
    unittest.main()
