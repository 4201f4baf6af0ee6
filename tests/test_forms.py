"""Points 50 to 53: codes, scopes, named and placed code."""

import random
import unittest

from odd_values import as_bool, as_list, changed, odd_values
from random_codes import random_code
from stopanywhere.errors import BadFunctions, BadKinds, BadRegisters, BadScope, Unknown
from stopanywhere.forms import Scope, is_named, is_placed, scope_of_codes

KINDS = (
    ("choice", "c", (("v", ()), ("w", ("number", "truth", "c")))), ("row", "r", "number"), ("row", "s", "c"),
    ("row", "t", "truth"),
)
FUNCTIONS = {"f": (("number", "c"), "number"), "g": (("truth",), "c"), "h": ((), "truth"), "i": (("e",), "e")}
SCOPE = Scope(KINDS, FUNCTIONS)


def frames(point, *variables):
    return (("f", point, variables),)


def told(name, kind, place):
    return name, kind, ("of", place, 1, 0)


# All sorts of rows and ends, with gaps in the numbers.
NAMED = ("f", "number", {
    0: (
        (("v0", "number"), ("v1", "c")),
        (
            (None, "mark", frames(0, told("a", "number", "v0"), told("b", "c", "v1"))), ("v2", "const", -7),
            ("v3", "plus", "v0", "v2"), ("v4", "less", "v3", "v0"), ("v5", "not", "v4"), ("v6", "copy", "v1"),
            ("v7", "make", "w", ("v0", "v5", "v6")), ("v8", "tag", "v7"), ("v9", "part", "w", 2, "v7"),
            ("v10", "part", "w", 1, "v9"), (None, "show", "v10"),
        ),
        ("branch", "v5", 7, 30),
    ),
    7: (
        (),
        (
            (None, "still", frames(0, ("a", "number", ("of", "v0", -1, 5)), ("x", "c", ("make", "w", (
                ("is", 3), ("lost",), ("make", "v", ())))), ("y", "number", ("is", -1)), ("z", "e", ("lost",)))),
            ("v11", "new", "r", "v2", "v0"), ("v12", "at", "r", "v11", "v0"), (None, "put", "r", "v11", "v0", "v12"),
            ("v13", "long", "r", "v11"), ("v14", "over", "v13", "v12"), ("v15", "rest", "v14", "v0"),
            ("v16", "call", "g", ("v15",)), ("v17", "call", "h", ()),
        ),
        ("jump", 9999, ("v16", "v17")),
    ),
    30: ((), ((None, "back", frames(1) + (("q", 0, (told("n", "number", "v5"),)),)),), ("try", "g", ("v0",), 31, 32)),
    31: ((("v9999", "c"),), ((None, "mark", frames(2)),), ("jump", 9999, ("v9999", "v0"))),
    32: ((("v100", "number"),), ((None, "mark", frames(3, told("n", "number", "v100"))),), ("fail", "v100")),
    9999: (
        (("v50", "c"), ("v51", "number")),
        (
            (None, "mark", frames(4, told("d", "number", "v51"))), ("v52", "new", "s", "v51", "v50"),
            ("v53", "at", "s", "v52", "v51"), (None, "put", "s", "v52", "v51", "v53"), ("v54", "minus", "v0", "v51"),
            ("v55", "times", "v54", "v54"), ("v56", "atmost", "v55", "v0"), ("v57", "same", "v56", "v55"),
            ("v58", "new", "t", "v57", "v57"), ("v59", "make", "v", ()),
        ),
        ("branch", "v57", 40, 41),
    ),
    40: ((), ((None, "still", frames(4)),), ("jump", 9999, ("v59", "v57"))),
    41: ((), ((None, "still", frames(4)),), ("return", "v57")),
})
PLACED = ("f", "number", {
    0: (
        (("r0", "number"), ("r1", "c")),
        (
            (None, "mark", frames(0, told("a", "number", "r0"), told("b", "c", "r1"))), ("s0", "copy", "r0"),
            ("s999", "copy", "r1"), ("r2", "const", 1), ("r2", "less", "r2", "r0"), ("r3", "make", "v", ()),
            ("r0", "call", "h", ()), ("r0", "copy", "s0"), ("r0", "call", "g", ("r0",)), ("r5", "copy", "r0"),
            (None, "still", frames(0, told("a", "number", "s0"), told("b", "c", "r5"))), ("r1", "tag", "r5"),
        ),
        ("branch", "r1", 3, 4),
    ),
    3: ((), ((None, "still", frames(0, told("a", "number", "s0"))), ("r0", "copy", "s0")), ("try", "g", ("r0",), 5, 6)),
    4: ((), ((None, "still", frames(0)), ("r0", "const", 0), ("s7", "copy", "r5")), ("jump", 8, ())),
    5: ((("r0", "c"),), ((None, "mark", frames(1)), ("s7", "copy", "r0"), ("r0", "const", 4)), ("jump", 8, ())),
    6: ((("r0", "number"),), ((None, "mark", frames(2, told("n", "number", "r0"))),), ("fail", "r0")),
    8: (
        (),
        (
            (None, "mark", frames(3, told("x", "c", "s7"), told("z", "number", "r0"))), ("r1", "const", 3),
            ("r0", "plus", "r0", "r1"), ("r2", "less", "r1", "r0"),
        ),
        ("branch", "r2", 10, 11),
    ),
    10: ((), ((None, "still", frames(3)),), ("jump", 8, ())),
    11: ((), ((None, "still", frames(3)),), ("return", "r0")),
})


def with_block(code, number, parameters=None, rows=None, end=None):
    """The code with something else in a block."""
    name, kind, blocks = code
    block = blocks.get(number, ((), (), ()))
    found = (
        block[0] if parameters is None else parameters, block[1] if rows is None else rows,
        block[2] if end is None else end,
    )
    return name, kind, {**blocks, number: found}


def with_row(code, number, index, row):
    rows = code[2][number][1]
    return with_block(code, number, rows=rows[:index] + (row,) + rows[index + 1:])


def with_more(code, number, *rows):
    return with_block(code, number, rows=code[2][number][1] + rows)


def without(code, number):
    return code[:2] + ({key: block for key, block in code[2].items() if key != number},)


class Scopes(unittest.TestCase):
    def test_what_names_mean(self):
        self.assertEqual(SCOPE.choice("v"), "c")
        self.assertEqual(SCOPE.choice(variant="w"), "c")
        self.assertEqual(SCOPE.variants(choice="c"), ("v", "w"))
        self.assertEqual(SCOPE.fields("v"), ())
        self.assertEqual(SCOPE.fields(variant="w"), ("number", "number", "c"))
        self.assertEqual((SCOPE.item("r"), SCOPE.item("s"), SCOPE.item(kind="t")), ("number", "c", "number"))
        self.assertEqual(SCOPE.takes("f"), ("number", "c"))
        self.assertEqual(SCOPE.takes(function="g"), ("number",))
        self.assertEqual((SCOPE.gives("g"), SCOPE.gives(function="h")), ("c", "number"))

    def test_attributes(self):
        found = Scope(kinds=KINDS[::-1], functions={name: FUNCTIONS[name] for name in "igfh"})
        self.assertEqual(found.kinds, KINDS)
        self.assertEqual(found.functions, {
            "f": (("number", "c"), "number"), "g": (("number",), "c"), "h": ((), "number"), "i": (("e",), "e"),
        })
        self.assertEqual(list(found.functions), ["f", "g", "h", "i"])
        self.assertTrue(found == SCOPE)
        self.assertFalse(found != SCOPE)
        self.assertFalse(found == Scope(KINDS[1:], FUNCTIONS))
        self.assertFalse(found == Scope(KINDS, {}))
        for thing in odd_values() + [KINDS]:
            self.assertEqual(Scope([], {}) == thing, isinstance(thing, Scope))

    def test_what_is_passed_may_be_changed_later(self):
        kinds, functions = list(KINDS), dict(FUNCTIONS)
        found = Scope(kinds, functions)
        kinds.clear()
        functions.clear()
        self.assertTrue(found == SCOPE)
        self.assertEqual(found.takes("f"), ("number", "c"))

    def test_unknown_names(self):
        for thing in odd_values() + ["c", "v", "r", "f", "e", "number", "truth"]:
            for call, right in (
                (SCOPE.choice, "vw"), (SCOPE.variants, "c"), (SCOPE.fields, "vw"), (SCOPE.item, "rst"),
                (SCOPE.takes, "fghi"), (SCOPE.gives, "fghi"),
            ):
                if not (isinstance(thing, str) and len(thing) == 1 and thing in right):
                    with self.assertRaises(Unknown) as caught:
                        call(thing)
                    self.assertEqual(repr(caught.exception.name), repr(thing))

    def test_wrong_kinds(self):
        for thing in odd_values():
            if not (isinstance(thing, (list, tuple)) and len(thing) == 0):
                self.assertRaises(BadKinds, Scope, thing, None)
            self.assertRaises(BadKinds, Scope, [KINDS[0], thing], {})
        for kinds in (
            [KINDS[0], KINDS[0]], [("row", "a", "a"), ("choice", "a", (("b", ()),))], [("choice", "a", (("a", ()),))],
            [("choice", "a", (("b", ()), ("b", ())))], [("row", "b", "a"), ("choice", "a", (("b", ()),))],
            {("row", "a", "a"): 1}, [["row", "a", "a"]],
        ):
            self.assertRaises(BadKinds, Scope, kinds, {})
        self.assertEqual(Scope([("row", "a", "elsewhere"[:8])], {}).item("a"), "elsewher")

    def test_wrong_functions(self):
        for thing in odd_values():
            if not (isinstance(thing, dict) and (not thing or "a" in thing)):
                with self.assertRaises(BadFunctions) as caught:
                    Scope([], thing)
                self.assertIsNone(caught.exception.name)
            with self.assertRaises(BadFunctions) as caught:
                Scope([], {"z": 1, "c": thing, "d": None, "a": ((), "number")})
            self.assertEqual(caught.exception.name, "c")
        for functions in ({"if": ((), "a")}, {1: ((), "a")}, {True: 1}, {"a": ((), "b"), None: ((), "b")}, [("a", ((), "b"))]):
            with self.assertRaises(BadFunctions) as caught:
                Scope([], functions)
            self.assertIsNone(caught.exception.name)
        for worth in (((), "of"), (("a",) * 4, "a"), (["a"], "a"), [(), "a"], ((), "a", ()), ((1,), "a"), ((), None), ("a", "a")):
            with self.assertRaises(BadFunctions) as caught:
                Scope([], {"f": worth})
            self.assertEqual(caught.exception.name, "f")
        self.assertEqual(Scope([], {"f": (("a",) * 3, "truth")}).gives("f"), "number")


class ScopesOfCodes(unittest.TestCase):
    def test_scopes(self):
        other = ("g", "c", {0: ((("r0", "number"),), (), ("jump", 5, ("v0", "r8", "s999")))})
        self.assertTrue(scope_of_codes(kinds=KINDS, codes=[NAMED, other]) == Scope(KINDS, {
            "f": (("number", "c"), "number"), "g": (("number",), "c"),
        }))
        self.assertTrue(scope_of_codes(list(KINDS), ()) == Scope(KINDS, {}))
        self.assertTrue(scope_of_codes((), (PLACED,)) == Scope((), {"f": (("number", "c"), "number")}))

    def test_no_codes(self):
        for thing in odd_values():
            is_empty = isinstance(thing, (list, tuple)) and len(thing) == 0
            self.assertEqual(scope_of_codes([], thing) is None, not is_empty)
            self.assertIsNone(scope_of_codes([], [NAMED, thing]))
        self.assertIsNone(scope_of_codes([], [NAMED, PLACED]))
        self.assertIsNone(scope_of_codes([], {"f": NAMED}))
        self.assertIsNone(scope_of_codes([], [without(NAMED, 0)]))
        self.assertIsNone(scope_of_codes([], [with_block(NAMED, 0, parameters=tuple((f"v{k}", "e") for k in range(4)))]))
        self.assertIsNotNone(scope_of_codes([], [with_block(NAMED, 0, parameters=tuple((f"v{k}", "e") for k in range(3)))]))
        self.assertIsNone(scope_of_codes([], [("f", "truth", NAMED[2])]))
        for kind in ("truth", "if", None, 1, "", ["number"]):
            self.assertIsNone(scope_of_codes([], [with_block(NAMED, 0, parameters=(("v0", kind),))]))
        for place, is_one in (("r8", True), ("r9", False), ("s999", True), ("s1000", False), ("v9999", True), ("v10000", False)):
            found = scope_of_codes([], [("f", "number", {0: ((), (), ("return", place))})])
            self.assertEqual(found is not None, is_one, place)
        self.assertIsNone(scope_of_codes([], [("of", "number", NAMED[2])]))

    def test_wrong_parts(self):
        """The form alone is asked: what stands in rows, ends and frames may be anywhere, but must have its form."""
        def told(row, end=("return", "v0")):
            return scope_of_codes([], [("f", "number", {0: ((), (row,), end)})]) is not None

        place = ("v0", "r0")
        names = ("a", "is")
        for word, forms in (
            ("const", "n"), ("copy", "p"), ("plus", "pp"), ("minus", "pp"), ("times", "pp"), ("less", "pp"), ("atmost", "pp"),
            ("same", "pp"), ("not", "p"), ("make", "xP"), ("tag", "p"), ("part", "xkp"), ("long", "xp"), ("over", "pp"),
            ("rest", "pp"), ("new", "xpp"), ("at", "xpp"), ("put", "xppp"), ("show", "p"), ("call", "xP"), ("mark", "F"),
            ("back", "F"), ("still", "F"),
        ):
            right = {"n": -3, "p": "s5", "x": "w", "P": ("v0", "r0"), "k": 7, "F": (("g", 5, ()),)}
            head = None if word in ("put", "show", "mark", "back", "still") else "r1"
            row = (head, word) + tuple(right[form] for form in forms)
            self.assertTrue(told(row), row)
            self.assertFalse(told(row + (1,)))
            self.assertFalse(told(row[:-1]))
            self.assertFalse(told(("r1" if head is None else None,) + row[1:]))
            for thing in odd_values():
                is_number = isinstance(thing, int) and not isinstance(thing, bool)
                for at, form in enumerate(forms):
                    is_right = {
                        "n": is_number, "k": is_number and thing >= 0, "p": isinstance(thing, str) and thing in place,
                        "x": isinstance(thing, str) and thing in names, "P": isinstance(thing, tuple) and not thing, "F": False,
                    }[form]
                    other = row[:at + 2] + (thing,) + row[at + 3:]
                    self.assertEqual(told(other), is_right, other)
                    if form == "P":
                        is_right = isinstance(thing, str) and thing in place
                        self.assertEqual(told(row[:at + 2] + (("v0", thing),) + row[at + 3:]), is_right)

    def test_wrong_parts_of_ends(self):
        def told(end):
            return scope_of_codes([], [("f", "number", {0: ((), (), end)})]) is not None

        for right, forms in (
            (("jump", 9999, ("v0", "s1")), "bP"), (("branch", "r0", 1, 2), "pbb"), (("return", "v1"), "p"),
            (("fail", "v1"), "p"), (("try", "f", ("r0",), 0, 5), "xPbb"),
        ):
            self.assertTrue(told(right))
            self.assertFalse(told(right + (1,)))
            self.assertFalse(told(right[:-1]))
            for thing in odd_values() + [10000, 9999]:
                is_block = isinstance(thing, int) and not isinstance(thing, bool) and 0 <= thing <= 9999
                is_place = isinstance(thing, str) and thing in ("v0", "r0")
                for at, form in enumerate(forms):
                    is_right = {
                        "b": is_block, "p": is_place, "x": isinstance(thing, str) and thing in ("a", "is"),
                        "P": isinstance(thing, tuple) and not thing,
                    }[form]
                    self.assertEqual(told(right[:at + 1] + (thing,) + right[at + 2:]), is_right, (right, at, thing))
                    if form == "P":
                        self.assertEqual(told(right[:at + 1] + ((thing,),) + right[at + 2:]), is_place)

    def test_wrong_parts_of_frames(self):
        def told(thing):
            return scope_of_codes([], [("f", "number", {0: ((), ((None, "still", thing),), ("return", "v0"))})]) is not None

        def of(formula):
            return told((("g", 5, (("x", "k", formula),)),))

        for formula in (
            ("is", 0), ("of", "s7", -1, -2), ("lost",), ("make", "w", ()), ("make", "w", (("lost",), ("of", "v0", 1, 0), ("is", 5))),
            ("make", "w", (("make", "w", (("make", "v", ()),)),)),
        ):
            self.assertTrue(of(formula))
        for thing in odd_values():
            is_number = isinstance(thing, int) and not isinstance(thing, bool)
            is_name = isinstance(thing, str) and thing in ("a", "is")
            for formula, is_right in (
                (thing, False), (("is", thing), is_number), (("of", thing, 1, 0), isinstance(thing, str) and thing in ("v0", "r0")),
                (("of", "v0", thing, 0), is_number and thing in (1, -1)), (("of", "v0", 1, thing), is_number),
                (("make", thing, ()), is_name), (("make", "w", thing), isinstance(thing, tuple) and not thing),
                (("make", "w", (thing,)), False), (("make", "w", (("lost",), ("make", "w", (thing,)))), False),
                (("lost", thing), False), ((thing,), False), (("is", 1, thing), False), (("of", "v0", 1, 0, thing), False),
                (("make", "w", (), thing), False),
            ):
                self.assertEqual(of(formula), is_right, formula)
            for frame, is_right in (
                ((thing, 5, ()), is_name), (("g", thing, ()), is_number and thing >= 0), (("g", 5, thing), repr(thing) == "()"),
                (("g", 5, (thing,)), False), (("g", 5, ((thing, "k", ("lost",)),)), is_name), (thing, False),
                (("g", 5, (("x", thing, ("lost",)),)), is_name), (("g", 5, (), thing), False),
            ):
                self.assertEqual(told((frame,)), is_right, frame)
                self.assertEqual(told((("g", 5, ()), frame)), is_right, frame)

    def test_long_places_are_none(self):
        for place in ("v" + "1" * 5000, "r" + "0" * 5000, "s" + "9" * 4, "v" + "9" * 5, "r10", "s1000"):
            self.assertIsNone(scope_of_codes([], [("f", "number", {0: ((), (), ("return", place))})]))

    def test_wrong_kinds(self):
        for thing in odd_values():
            if not (isinstance(thing, (list, tuple)) and len(thing) == 0):
                self.assertRaises(BadKinds, scope_of_codes, thing, None)
        self.assertRaises(BadKinds, scope_of_codes, [KINDS[0]] * 2, None)


class Named(unittest.TestCase):
    def right(self, code):
        self.assertTrue(is_named(code, SCOPE))

    def wrong(self, *codes):
        for code in codes:
            self.assertFalse(is_named(code, SCOPE), code)

    def test_right_code(self):
        self.assertTrue(is_named(thing=NAMED, scope=SCOPE))
        self.right(("f", "number", {key: NAMED[2][key] for key in reversed(list(NAMED[2]))}))
        self.assertFalse(is_placed(NAMED, SCOPE, 9))
        self.assertFalse(is_named(NAMED, Scope(KINDS, {})))
        self.assertFalse(is_named(NAMED, Scope([], FUNCTIONS)))
        rng = random.Random(21)
        for _ in range(100):
            code, many = random_code(rng)
            self.assertTrue(is_named(code, Scope([], {"f": (("number",) * many, "number")})), code)
            self.assertFalse(is_named(code, Scope([], {"f": (("number",) * 3, "c")})))

    def test_one_thing_changed(self):
        for turn in (as_list, as_bool):
            for other in changed(NAMED, turn):
                self.wrong(other)

    def test_any_value(self):
        for thing in odd_values():
            self.wrong(thing, ("f", "number", thing), ("f", "number", {**NAMED[2], 5: thing}))
            self.wrong(with_row(NAMED, 0, 1, thing))
            self.wrong(("f", "number", {**NAMED[2], 41: NAMED[2][41][:2] + (thing,)}))
            self.wrong(("f", "number", {**NAMED[2], 41: (thing,) + NAMED[2][41][1:]})) if thing != () else None
            self.wrong(with_row(NAMED, 0, 0, (None, "mark", thing)))
            self.wrong(with_row(NAMED, 0, 0, (None, "mark", frames(0, ("a", "number", thing)))))

    def test_names_and_kinds(self):
        self.wrong(
            ("g", "number", NAMED[2]), ("of", "number", NAMED[2]), ("f", "c", NAMED[2]), ("f", "truth", NAMED[2]),
            ("j", "number", NAMED[2]), ("f", "number", {}), NAMED + (1,), NAMED[:2],
        )
        self.wrong(
            with_block(NAMED, 0, parameters=(("v0", "number"),)),
            with_block(NAMED, 0, parameters=(("v1", "c"), ("v0", "number"))),
            with_block(NAMED, 0, parameters=(("v0", "number"), ("v1", "c"), ("v200", "number"))),
            with_block(NAMED, 0, parameters=(("v0", "truth"), ("v1", "c"))),
        )

    def test_numbers_of_blocks(self):
        one, two = without(NAMED, 7), dict(NAMED[2])
        self.wrong(one, without(NAMED, 41), without(NAMED, 0))
        for number in (10000, -1, True, "7", None, 7.0):
            two = {key: block for key, block in NAMED[2].items() if key != 9999}
            self.wrong(("f", "number", {**two, number: NAMED[2][9999]}))
        self.wrong(with_block(NAMED, 40, end=("jump", True, ("v59", "v57"))))
        simple = ("f", "number", {
            0: ((("v0", "number"), ("v1", "c")), ((None, "mark", frames(0)),), ("jump", 1, ())),
            1: ((), ((None, "mark", frames(0)),), ("return", "v0")),
        })
        self.right(simple)
        self.wrong(("f", "number", {0: simple[2][0], True: simple[2][1]}), ("f", "number", {False: simple[2][0], 1: simple[2][1]}))
        self.wrong(with_block(simple, 0, end=("jump", True, ())), with_block(simple, 0, end=("jump", 10000, ())))
        for number in (2, 9999, 10000, 10001):
            other = ("f", "number", {0: simple[2][0][:2] + (("jump", number, ()),), number: simple[2][1]})
            self.assertEqual(is_named(other, SCOPE), number < 10000)
        for place in ("v01", "v10000", "v-1", "w5", "v", 5, None, "r0", "v5 "):
            self.wrong(("f", "number", {
                0: simple[2][0][:2] + (("jump", 1, ("v0",)),), 1: (((place, "number"),), simple[2][1][1], ("return", "v0")),
            }))

    def test_where_ends_lead(self):
        self.wrong(
            with_block(NAMED, 41, end=("jump", 0, ("v0", "v1"))),  # back to block 0
            with_block(NAMED, 50, rows=((None, "mark", frames(0)),), end=("return", "v0")),  # not come to
            with_block(NAMED, 0, end=("branch", "v5", 7, 7)), with_block(NAMED, 0, end=("branch", "v5", 30, 30)),
            with_block(NAMED, 41, end=("jump", 40, ())),  # two ends lead to a branch's block
            with_block(NAMED, 41, end=("jump", 31, ("v1",))),  # and to a try's
            with_block(NAMED, 41, end=("jump", 12, ())),  # to no block
            with_block(NAMED, 30, end=("try", "g", ("v0",), 31, 31)), with_block(NAMED, 30, end=("try", "g", ("v0",), 32, 31)),
            with_block(NAMED, 7, parameters=(("v200", "number"),)),  # a branch's block has no parameters
            with_block(NAMED, 31, parameters=()), with_block(NAMED, 31, parameters=(("v9999", "number"),)),
            with_block(NAMED, 32, parameters=(("v100", "c"),)),
            with_block(NAMED, 32, parameters=(("v100", "number"), ("v101", "number"))),
        )
        ring = with_block(with_block(NAMED, 60, rows=((None, "mark", frames(0)),), end=("jump", 61, ())),
                          61, rows=((None, "mark", frames(0)),), end=("jump", 60, ()))
        self.wrong(ring)
        lone = with_block(NAMED, 41, end=("branch", "v57", 60, 61))
        for number in (60, 61):
            lone = with_block(lone, number, rows=((None, "mark", frames(0)),), end=("return", "v0"))
        self.right(lone)
        self.wrong(with_block(lone, 60, end=("jump", 61, ())))

    def test_arguments_of_jumps(self):
        for arguments in (("v59",), ("v59", "v57", "v57"), ("v57", "v59"), ("v59", "v59"), (), ("v59", "v200")):
            self.wrong(with_block(NAMED, 40, end=("jump", 9999, arguments)))
        self.right(with_block(NAMED, 40, end=("jump", 9999, ("v50", "v51"))))

    def test_places_are_given_once_and_held(self):
        self.wrong(
            with_row(NAMED, 0, 3, ("v2", "plus", "v0", "v0")), with_row(NAMED, 9999, 4, ("v3", "minus", "v0", "v51")),
            with_row(NAMED, 9999, 4, ("v51", "minus", "v0", "v0")), with_block(NAMED, 9999, parameters=(("v50", "c"), ("v50", "number"))),
            with_row(NAMED, 0, 2, ("v3", "plus", "v0", "v4")),  # given behind
            with_row(NAMED, 0, 2, ("v3", "plus", "v0", "v3")), with_row(NAMED, 0, 2, ("v3", "plus", "v0", "v200")),
            with_more(NAMED, 9999, (None, "show", "v12")),  # given on one way alone
            with_more(NAMED, 9999, (None, "show", "v100")), with_block(NAMED, 41, end=("return", "v15")),
            with_block(NAMED, 41, end=("fail", "v100")), with_block(NAMED, 30, end=("try", "g", ("v100",), 31, 32)),
            with_row(NAMED, 9999, 0, (None, "mark", frames(4, told("d", "number", "v57")))),
            with_row(NAMED, 9999, 0, (None, "mark", frames(4, told("d", "number", "v54")))),
        )
        self.wrong(
            with_more(NAMED, 9999, ("v3", "minus", "v0", "v51")), with_more(NAMED, 41, ("v57", "const", 1)),
            with_more(NAMED, 41, ("v51", "const", 1)), with_more(NAMED, 0, ("v0", "const", 1)),
            with_more(with_more(NAMED, 41, ("v200", "const", 1)), 40, ("v200", "const", 1)),
            with_block(NAMED, 32, parameters=(("v3", "number"),), rows=((None, "mark", frames(3)),), end=("fail", "v3")),
        )
        self.right(with_more(with_more(NAMED, 41, ("v200", "const", 1)), 40, ("v201", "const", 1)))
        self.right(with_more(NAMED, 9999, (None, "show", "v10")))
        self.right(with_more(NAMED, 40, (None, "show", "v57")))
        self.right(with_more(NAMED, 32, (None, "show", "v10"), (None, "still", frames(3, told("x", "c", "v9")))))

    def test_kinds_of_rows(self):
        for row in (
            ("v99", "const", 1), ("v99", "copy", "v52"), ("v99", "plus", "v0", "v51"), ("v99", "make", "v", ()),
            ("v99", "make", "w", ("v0", "v0", "v1")), ("v99", "tag", "v50"), ("v99", "part", "w", 0, "v1"),
            ("v99", "long", "s", "v52"), ("v99", "over", "v0", "v0"), ("v99", "rest", "v0", "v0"),
            ("v99", "new", "t", "v0", "v0"), ("v99", "at", "t", "v58", "v0"), (None, "put", "t", "v58", "v0", "v0"),
            (None, "show", "v0"), ("v99", "call", "h", ()), ("v99", "call", "f", ("v0", "v1")), ("v99", "const", 10 ** 30),
            (None, "still", frames(4)), (None, "back", frames(4)), (None, "mark", frames(4)),
        ):
            self.right(with_more(NAMED, 9999, row))
        for row in (
            ("v99", "const", True), ("v99", "const", "v0"), ("v99", "const"), (None, "const", 1), ("v99", "copy", 1),
            ("v99", "copy", "v0", "v0"), ("v99", "plus", "v0", "v1"), ("v99", "plus", "v1", "v0"), ("v99", "plus", "v0"),
            ("v99", "plus", "v0", 1), ("v99", "less", "v50", "v50"), ("v99", "same", "v50", "v50"), ("v99", "not", "v1"),
            ("v99", "make", "v", ("v0",)), ("v99", "make", "w", ("v0", "v0")), ("v99", "make", "w", ("v0", "v0", "v0")),
            ("v99", "make", "w", ["v0", "v0", "v1"]), ("v99", "make", "c", ()), ("v99", "make", "x", ()), (None, "make", "v", ()),
            ("v99", "tag", "v0"), ("v99", "tag", "v52"), ("v99", "part", "w", 3, "v1"), ("v99", "part", "v", 0, "v1"),
            ("v99", "part", "w", -1, "v1"), ("v99", "part", "w", True, "v1"), ("v99", "part", "w", 0, "v0"),
            ("v99", "part", "w", 0, "v52"), ("v99", "part", "c", 0, "v1"), ("v99", "long", "t", "v52"), ("v99", "long", "s", "v0"),
            ("v99", "long", "c", "v1"), ("v99", "over", "v0", "v1"), ("v99", "rest", "v1", "v0"), ("v99", "new", "s", "v0", "v0"),
            ("v99", "new", "t", "v1", "v0"), ("v99", "new", "c", "v0", "v0"), ("v99", "at", "s", "v58", "v0"),
            ("v99", "at", "t", "v58", "v1"), (None, "at", "t", "v58", "v0"), (None, "put", "s", "v52", "v0", "v0"),
            (None, "put", "t", "v58", "v1", "v0"), (None, "put", "t", "v52", "v0", "v0"), ("v99", "put", "t", "v58", "v0", "v0"),
            (None, "show", "v1"), ("v99", "show", "v0"), ("v99", "call", "h", ("v0",)), ("v99", "call", "g", ("v1",)),
            ("v99", "call", "f", ("v0",)), ("v99", "call", "k", ()), (None, "call", "h", ()), ("v99", "call", "h", []),
            ("v99", "mark", frames(4)), (None, "still"), (None, "jump", 40, ()), ("v99", "return", "v0"), ("v99", "and", "v0", "v0"),
            ("v099", "const", 1), ("v10000", "const", 1), ("v", "const", 1), ("v-1", "const", 1), ("v+1", "const", 1),
            ("V99", "const", 1), ("v9 ", "const", 1), ("v\u00b2", "const", 1), ("v\u0661", "const", 1), ("r0", "const", 1),
            ("s0", "const", 1), ("s0", "copy", "v0"), ("v99", "copy", "r0"), (99, "const", 1), (("v99",), "const", 1),
            (None, "mark", frames(4, told("x", "number", "r0"))),
        ):
            self.wrong(with_more(NAMED, 9999, row))

    def test_ends(self):
        for end in (
            ("return", "v1"), ("return", "v0", "v0"), ("return",), ("fail", "v1"), ("fail",), ("branch", "v57", 40),
            ("jump", 9999), ("back", "v0"), ["return", "v0"], ("return", 1), ("jump", 9999, ["v59", "v57"]), ("show", "v0"),
        ):
            self.wrong(with_block(NAMED, 41, end=end))
        self.right(with_block(NAMED, 41, end=("fail", "v0")))
        self.wrong(with_block(NAMED, 9999, end=("branch", "v50", 40, 41)))
        for arguments in ((), ("v1",), ("v0", "v0"), ["v0"]):
            self.wrong(with_block(NAMED, 30, end=("try", "g", arguments, 31, 32)))
        self.wrong(with_block(NAMED, 30, end=("try", "h", (), 31, 32)), with_block(NAMED, 30, end=("try", "k", (), 31, 32)))

    def test_context_rows(self):
        self.wrong(
            with_block(NAMED, 41, rows=()), with_block(NAMED, 41, rows=(("v99", "const", 1),)),
            with_block(NAMED, 41, rows=(("v99", "const", 1), (None, "mark", frames(4)))),
        )
        for thing in (
            (), (("g", 4, ()),), (("g", 4, ()), ("f", 4, ())), frames(-1), frames(True), frames(None), (("f", 4),),
            (("f", 4, (), ()),), frames(4) * 13, (["f", 4, ()],), (("f", 4, []),), (("of", 4, ()),), frames("4"),
            frames(4, told("b", "number", "v0"), told("a", "number", "v0")),
            frames(4, told("a", "number", "v0"), told("a", "number", "v0")), frames(4, told("of", "number", "v0")),
            frames(4, told("a", "c", "v0")), frames(4, told("a", "number", "v1")), frames(4, told("a", "number", "v99")),
            frames(4, told("a", "truth", "v0")), frames(4, ("a", "number")), frames(4, ("a", "number", ("lost",), 1)),
            frames(4) + (("g", 4, (told("a", "number", "v1"),)),), list(frames(4)), frames(4) + (("of", 4, ()),),
            frames(4) + ((1, 4, ()),), frames(4) + (("g", -1, ()),), frames(4) + (("g", 4, (("if", "number", ("lost",)),)),), frames(4, ["a", "number", ("lost",)]),
        ):
            self.wrong(with_row(NAMED, 41, 0, (None, "still", thing)))
        for thing in (frames(4) * 12, frames(4) + (("g", 99999, ()),), frames(0, told("a", "c", "v1"), told("b", "number", "v57"))):
            self.right(with_row(NAMED, 41, 0, (None, "still", thing)))

    def test_formulas(self):
        for kind, formula in (
            ("number", ("is", 10 ** 20)), ("number", ("of", "v0", -1, 7)), ("c", ("of", "v1", 1, 0)), ("r", ("lost",)),
            ("c", ("make", "v", ())), ("c", ("make", "w", (("is", 1), ("of", "v0", -1, -1), ("of", "v1", 1, 0)))),
            ("c", ("make", "w", (("lost",), ("lost",), ("make", "v", ())))), ("elsewher", ("lost",)), ("number", ("lost",)),
        ):
            self.right(with_row(NAMED, 41, 0, (None, "still", frames(4, ("a", kind, formula)))))
        for kind, formula in (
            ("c", ("is", 0)), ("number", ("is", True)), ("number", ("is",)), ("number", ("is", 1, 1)), ("number", ("is", "v0")),
            ("number", ("of", "v0", True, 0)), ("number", ("of", "v0", 0, 0)), ("number", ("of", "v0", 2, 0)),
            ("number", ("of", "v0", 1, False)), ("number", ("of", "v0", 1)), ("number", ("of", 0, 1, 0)), ("c", ("of", "v1", -1, 0)),
            ("c", ("of", "v1", 1, 1)), ("c", ("of", "v0", 1, 0)), ("number", ("of", "v1", 1, 0)), ("number", ("make", "v", ())),
            ("r", ("make", "v", ())), ("c", ("make", "v", (("is", 1),))), ("c", ("make", "w", (("is", 1), ("is", 1)))),
            ("c", ("make", "w", (("is", 1), ("is", 1), ("is", 1)))), ("c", ("make", "w", [("is", 1), ("is", 1), ("lost",)])),
            ("c", ("make", "c", ())), ("c", ("make", "x", ())), ("c", ("make", "w", (("is", 1), ("of", "v1", 1, 0), ("lost",)))),
            ("c", ("make", "v", (), 1)), ("c", ("make", "v")), ("truth", ("lost",)), (None, ("lost",)), ("of", ("lost",)),
            ("number", ("lost", 1)), ("number", "lost"), ("number", ("gone",)), ("number", ()), ("number", ["lost"]),
            ("c", ("make", "w", (("of", "v12", 1, 0), ("is", 1), ("lost",)))), ("number", None),
        ):
            self.wrong(with_row(NAMED, 41, 0, (None, "still", frames(4, ("a", kind, formula)))))

    def test_scopes(self):
        for thing in odd_values():
            if not isinstance(thing, Scope):
                self.assertRaises(BadScope, is_named, NAMED, thing)
                self.assertRaises(BadScope, is_placed, None, thing, None)


class Placed(unittest.TestCase):
    def right(self, code, registers=9):
        self.assertTrue(is_placed(code, SCOPE, registers))

    def wrong(self, *codes):
        for code in codes:
            self.assertFalse(is_placed(code, SCOPE, 9), code)

    def test_right_code(self):
        for registers in (6, 7, 8, 9):
            self.assertTrue(is_placed(thing=PLACED, scope=SCOPE, registers=registers))
        self.assertFalse(is_named(PLACED, SCOPE))

    def test_one_thing_changed(self):
        for turn in (as_list, as_bool):
            for other in changed(PLACED, turn):
                self.wrong(other)

    def test_any_value(self):
        for thing in odd_values():
            self.wrong(thing, ("f", "number", thing), ("f", "number", {**PLACED[2], 1: thing}), with_row(PLACED, 0, 1, thing))

    def test_registers(self):
        for number in range(9):
            code = with_more(PLACED, 11, (f"r{number}", "const", 1), ("r0", "const", 1))
            for registers in (6, 7, 8, 9):
                self.assertEqual(is_placed(code, SCOPE, registers), number < registers)
        self.wrong(with_more(PLACED, 11, ("r9", "const", 1)), with_more(PLACED, 11, ("v0", "const", 1)))
        self.wrong(with_row(PLACED, 11, 0, (None, "still", frames(3, told("x", "number", "v0")))))
        for thing in odd_values() + [5, 10, "6", True]:
            self.assertRaises(BadRegisters, is_placed, None, SCOPE, thing)

    def test_parameters(self):
        self.wrong(
            with_block(PLACED, 0, parameters=(("r1", "number"), ("r0", "c"))),
            with_block(PLACED, 0, parameters=(("r0", "number"), ("r2", "c"))),
            with_block(PLACED, 0, parameters=(("r0", "number"), ("s0", "c"))),
            with_block(PLACED, 0, parameters=(("r0", "number"),)),
            with_block(PLACED, 5, parameters=(("r1", "c"),)), with_block(PLACED, 6, parameters=(("r1", "number"),)),
            with_block(PLACED, 5, parameters=(("s0", "c"),)), with_block(PLACED, 5, parameters=()),
        )
        jumping = with_block(PLACED, 8, parameters=(("r0", "number"),))
        self.wrong(jumping, with_block(with_block(with_block(jumping, 4, end=("jump", 8, ("r0",))), 5, end=("jump", 8, ("r0",))),
                                       10, end=("jump", 8, ("r0",))))

    def test_calls_and_ends(self):
        self.wrong(
            with_row(PLACED, 0, 8, ("r1", "call", "g", ("r0",))), with_row(PLACED, 0, 8, ("s1", "call", "g", ("r0",))),
            with_row(PLACED, 0, 8, ("r0", "call", "g", ("r1",))), with_row(PLACED, 0, 8, ("r0", "call", "g", ("s0",))),
            with_row(PLACED, 0, 8, ("r0", "call", "g", ())), with_row(PLACED, 0, 8, ("r0", "call", "g", ("r0", "r1"))),
            with_block(PLACED, 3, end=("try", "g", ("r1",), 5, 6)), with_block(PLACED, 3, end=("try", "g", ("s0",), 5, 6)),
            with_block(PLACED, 3, end=("try", "g", (), 5, 6)), with_block(PLACED, 11, end=("return", "r1")),
            with_block(with_more(PLACED, 11, ("s0", "copy", "r0")), 11, end=("return", "s0")),
            with_block(PLACED, 11, end=("fail", "s0")), with_block(PLACED, 10, end=("jump", 8, ("r0",))),
            with_block(PLACED, 8, end=("branch", "s0", 10, 11)), with_block(PLACED, 8, end=("branch", "r2", 10, 10)),
            with_block(PLACED, 11, end=("jump", 10, ())), with_block(PLACED, 11, end=("jump", 0, ())),
        )
        self.right(with_block(PLACED, 11, end=("fail", "r1")))
        three = Scope(KINDS, {"f": (("number", "c"), "number"), "g": (("number", "number", "c"), "c"), "h": ((), "number")})
        code = with_block(PLACED, 3, rows=PLACED[2][3][1] + (("r1", "const", 1), ("r2", "copy", "s999")),
                          end=("try", "g", ("r0", "r1", "r2"), 5, 6))
        code = with_row(code, 0, 8, ("r5", "make", "v", ()))
        code = with_row(code, 0, 9, ("r5", "copy", "r5"))
        self.assertTrue(is_placed(code, three, 6))
        self.assertFalse(is_placed(with_block(code, 3, end=("try", "g", ("r0", "r2", "r1"), 5, 6)), three, 6))

    def test_each_call_gives_and_takes_registers_from_the_first_on(self):
        last = ("r0", "const", 1)
        self.right(with_more(PLACED, 11, ("r0", "call", "h", ()), last))
        self.right(with_more(PLACED, 11, ("r0", "copy", "r1"), ("r0", "call", "g", ("r0",)), last))
        self.wrong(
            with_more(PLACED, 11, ("r1", "call", "h", ()), last), with_more(PLACED, 11, ("s1", "call", "h", ()), last),
            with_more(PLACED, 11, ("r0", "call", "g", ("r1",)), last),
            with_more(PLACED, 11, ("r0", "call", "g", ("r2",)), last),
        )
        self.wrong(with_block(with_more(PLACED, 3, ("r1", "const", 1)), 3, end=("try", "g", ("r1",), 5, 6)))

    def test_each_parameter_is_a_register_from_the_first_on(self):
        scope = Scope([], {"f": (("number", "number"), "number")})

        def simple(first, second, third, fourth=()):
            """Block 0, the blocks of a try, and one to which these jump."""
            rows = ((None, "mark", frames(0)), ("r0", "const", 1))
            return "f", "number", {
                0: (first, rows + (("r1", "const", 1),), ("try", "f", ("r0", "r1"), 1, 2)),
                1: (second, rows, ("jump", 3, tuple(place for place, _ in fourth))),
                2: (third, rows, ("jump", 3, tuple(place for place, _ in fourth))),
                3: (fourth, rows, ("return", "r0")),
            }

        def of(*places):
            return tuple((place, "number") for place in places)

        self.assertTrue(is_placed(simple(of("r0", "r1"), of("r0"), of("r0")), scope, 9))
        for code in (
            simple(of("r1", "r0"), of("r0"), of("r0")), simple(of("r0", "r2"), of("r0"), of("r0")),
            simple(of("r0", "s1"), of("r0"), of("r0")), simple(of("r0", "r0"), of("r0"), of("r0")),
            simple(of("r0", "r1"), of("r1"), of("r0")), simple(of("r0", "r1"), of("r0"), of("s0")),
            simple(of("r0", "r1"), of("r0"), of("r3")), simple(of("r0", "r1"), of("r0"), of("r0"), of("r0")),
            simple(of("r0", "r1"), of("r0"), of("r0"), of("r0", "r1")),
        ):
            self.assertFalse(is_placed(code, scope, 9), code)

    def test_slots(self):
        self.right(with_more(PLACED, 11, ("s5", "copy", "r0"), ("r0", "copy", "s5")))
        self.wrong(
            with_more(PLACED, 11, ("s5", "copy", "s0")), with_more(PLACED, 11, ("s5", "const", 1)),
            with_more(PLACED, 11, ("r0", "plus", "s0", "r0")), with_more(PLACED, 11, (None, "show", "s0")),
            with_more(PLACED, 11, ("s5", "plus", "r0", "r0")), with_more(PLACED, 11, ("r1", "make", "w", ("r0", "r0", "s999"))),
            with_more(PLACED, 11, ("s1000", "copy", "r0")), with_more(PLACED, 11, ("s05", "copy", "r0")),
        )

    def test_what_is_held(self):
        self.right(with_more(PLACED, 0, ("r7", "copy", "r5"), ("r7", "copy", "s0"), (None, "show", "r7")))
        # Behind a call no register is held but r0; slots are.
        self.wrong(with_row(PLACED, 0, 9, ("r5", "copy", "r1")), with_row(PLACED, 0, 7, ("r0", "copy", "r2")))
        self.wrong(with_row(PLACED, 0, 10, (None, "still", frames(0, told("a", "number", "r2")))))
        # The last giving on each way has one kind, the wanted one.
        self.wrong(with_row(PLACED, 8, 0, (None, "mark", frames(3, told("x", "number", "s7")))))
        self.wrong(with_row(PLACED, 5, 1, ("s7", "copy", "s0")))
        unlike = with_row(PLACED, 4, 2, ("s7", "copy", "r1"))
        self.wrong(unlike)
        self.right(with_row(unlike, 8, 0, (None, "mark", frames(3, told("z", "number", "r0")))))
        self.wrong(with_row(PLACED, 8, 2, ("r0", "plus", "r0", "r5")))
        # In a try's blocks r0 alone is held of the registers.
        self.wrong(with_row(PLACED, 5, 0, (None, "mark", frames(1, told("b", "c", "r5")))))
        self.wrong(with_more(PLACED, 6, (None, "show", "r1")))
        self.right(with_row(PLACED, 5, 0, (None, "mark", frames(1, told("a", "number", "s0"), told("b", "c", "s999")))))
        # A place that was given with another kind since.
        self.wrong(with_more(PLACED, 11, ("r0", "make", "v", ())))
        self.right(with_more(PLACED, 11, ("r0", "make", "v", ()), ("r0", "tag", "r0")))
        # In a ring the first way counts as well.
        self.wrong(with_row(PLACED, 8, 0, (None, "mark", frames(3, told("x", "number", "r2")))))
        self.wrong(with_row(PLACED, 8, 0, (None, "mark", frames(3, told("x", "number", "r1")))))
        self.right(with_row(with_more(PLACED, 5, ("r1", "const", 1)), 8, 0, (None, "mark", frames(3, told("x", "number", "r1")))))

    def test_context_rows(self):
        self.wrong(
            with_block(PLACED, 11, rows=()), with_block(PLACED, 11, rows=(("r0", "const", 1),)),
            with_row(PLACED, 11, 0, (None, "still", (("g", 3, ()),))), with_row(PLACED, 11, 0, (None, "still", ())),
        )

    def test_code_without_a_place_is_both(self):
        scope = Scope([], {"f": ((), "number")})
        code = ("f", "number", {
            0: ((), ((None, "mark", frames(0)),), ("jump", 4, ())), 4: ((), ((None, "mark", frames(0)),), ("jump", 4, ())),
        })
        self.assertTrue(is_named(code, scope))
        self.assertTrue(is_placed(code, scope, 6))


if __name__ == "__main__":
    unittest.main()
