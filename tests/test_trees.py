"""Points 11 and 12: the forms of trees, statements, calls and levels."""

import random
import unittest

import random_trees
from odd_values import as_bool, as_list, as_number, changed, nested, odd_values
from stopanywhere.errors import BadTree
from stopanywhere.trees import (
    calls_in, depth, is_block, is_declaration, is_expression, is_function, is_kind, is_unit, statements,
)
from stopanywhere.words import KEPT

A = ("name", "a")
ONE = ("number", 1)


class Kinds(unittest.TestCase):
    def test_kinds(self):
        for thing in ("number", "truth", "a", "abcdefgh"):
            self.assertTrue(is_kind(thing))
        for thing in list(KEPT) + ["", "abcdefghi", "A", None, 1, True, ["number"], ("number",)]:
            self.assertEqual(is_kind(thing), thing in ("number", "truth"), thing)


class Expressions(unittest.TestCase):
    def test_each_form(self):
        for word in ("plus", "minus", "times", "over", "rest", "less", "atmost", "same", "and", "or"):
            self.assertTrue(is_expression((word, A, ONE)))
            for thing in ((word, A), (word, A, ONE, A), (word, A, 1), (word, "a", A), (word,), [word, A, ONE]):
                self.assertFalse(is_expression(thing), thing)
        for thing in (
            ONE, ("number", 0), ("number", -5), ("number", 10 ** 30), ("truth", True), ("truth", False), A, ("not", A),
            ("call", "f", ()), ("call", "f", (A, A, A)), ("make", "v", ()), ("make", "v", (ONE, A, A)),
            ("new", "k", A, A), ("at", "k", A, ONE), ("long", "k", A), ("name", "plus"), ("call", "less", (A,)),
        ):
            self.assertTrue(is_expression(thing), thing)

    def test_wrong_forms(self):
        for thing in (
            ("number", True), ("number", False), ("number", "1"), ("number", None), ("number",), ("number", 1, 1),
            ("truth", 1), ("truth", 0), ("truth", None), ("name", "if"), ("name", "abcdefghi"), ("name", ""),
            ("name", None), ("not",), ("not", A, A), ("call", "f", (A, A, A, A)), ("call", "f", [A]), ("call", "f", A),
            ("call", "if", ()), ("call", "f"), ("make", "v", (A, A, A, A)), ("make", "V", ()), ("make", "v", [A]),
            ("new", "number", A, A), ("new", "k", A), ("at", "truth", A, A), ("at", "k", A, A, A), ("long", "k"),
            ("long", "k", A, A), ("long", "row", A), ("let", "a", A), ("unknown", A), (A,), ("less",), (), ("",), (1, A),
        ):
            self.assertFalse(is_expression(thing), thing)

    def test_right_trees_and_one_thing_changed(self):
        rng = random.Random(1)
        for _ in range(150):
            tree = random_trees.expression(rng, 5)
            self.assertTrue(is_expression(tree))
            for turn in (as_list, as_bool, as_number):
                for other in changed(tree, turn):
                    self.assertFalse(is_expression(other), other)

    def test_any_value(self):
        for thing in odd_values():
            is_right = isinstance(thing, tuple) and repr(thing) in ("('name', 'a')", "('number', 1)")
            self.assertEqual(is_expression(thing), is_right, repr(thing)[:80])

    def test_deep_values(self):
        self.assertTrue(is_expression(self.deep(59)))
        self.assertFalse(is_expression(nested(60, lambda thing: ("not", thing))))
        self.assertTrue(is_block((("show", self.deep(58)),)))

    def deep(self, many):
        found = A
        for _ in range(many - 1):
            found = ("not", found)
        return found


class Statements(unittest.TestCase):
    def test_each_form(self):
        call = ("call", "f", (ONE,))
        for thing in (
            ("let", "x", A), ("set", "x", A), ("put", "k", A, ONE, A), ("show", A), ("if", A, (), ()),
            ("if", A, (("show", A),), (("show", A),)), ("while", A, ()), ("match", A, (("v", (), ()),)),
            ("match", A, (("v", ("x", "y", "z"), (("show", A),)),) * 4), ("try", "x", call, "y", A), ("return", A),
            ("fail", A),
        ):
            self.assertTrue(is_block((thing,)), thing)
            self.assertTrue(is_block((thing, thing)), thing)
            self.assertFalse(is_block([thing]))
            self.assertFalse(is_block(thing))
            self.assertFalse(is_expression(thing))
        self.assertTrue(is_block(()))

    def test_wrong_forms(self):
        call = ("call", "f", ())
        branch = ("v", (), ())
        for thing in (
            ("let", "if", A), ("let", "x"), ("let", "x", A, A), ("set", "x", 1), ("set", 1, A), ("put", "k", A, A),
            ("put", "number", A, A, A), ("put", "k", A, A, A, A), ("show",), ("show", A, A), ("show", "a"),
            ("if", A, ()), ("if", A, (), (), ()), ("if", A, [], ()), ("if", A, (), None), ("while", A), ("while", A, A),
            ("while", A, (), ()), ("match", A, ()), ("match", A, (branch,) * 5), ("match", A, branch),
            ("match", A, [branch]), ("match", A, (("v", ()),)), ("match", A, (["v", (), ()],)),
            ("match", A, (("v", [], ()),)), ("match", A, (("v", ("a",) * 4, ()),)), ("match", A, (("if", (), ()),)),
            ("match", A, (("v", ("not",), ()),)), ("match", A, (("v", (), []),)), ("match", A, (("v", (), (), ()),)),
            ("try", "x", A, "y", A), ("try", "x", ("make", "v", ()), "y", A), ("try", "x", call, "y"),
            ("try", "x", call, "try", A), ("try", "try", call, "y", A), ("try", "x", call, "y", A, A), ("return",),
            ("return", A, A), ("fail",), ("fail", None), (), A, ("unit",), "show", None, 1,
        ):
            self.assertFalse(is_block((thing,)), thing)
            self.assertFalse(is_block((("show", A), thing)), thing)

    def test_right_trees_and_one_thing_changed(self):
        rng = random.Random(2)
        for _ in range(60):
            tree = random_trees.block(rng, 3)
            self.assertTrue(is_block(tree))
            for turn in (as_list, as_bool, as_number):
                for other in changed(tree, turn):
                    self.assertFalse(is_block(other), other)

    def test_any_value(self):
        for thing in odd_values():
            told = thing == () and isinstance(thing, tuple)
            self.assertEqual(is_block(thing), told, repr(thing)[:80])


class FunctionsAndUnits(unittest.TestCase):
    def test_functions(self):
        self.assertTrue(is_function(("function", "f", (), ())))
        self.assertTrue(is_function(("function", "f", ("a", "b", "c"), (("show", A),))))
        self.assertTrue(is_function(("function", "f", ("a", "a"), ())))
        for thing in (
            ("function", "f", ("a", "b", "c", "d"), ()), ("function", "f", ["a"], ()), ("function", "f", (), []),
            ("function", "f", ("if",), ()), ("function", "of", (), ()), ("function", "f", ()), ("f", "f", (), ()),
            ("function", "f", (), (), ()), ("function", "f", "a", ()), ("function", "f", (1,), ()),
        ):
            self.assertFalse(is_function(thing), thing)

    def test_declarations(self):
        for thing in (
            ("row", "k", "number"), ("row", "k", "truth"), ("row", "k", "k"), ("choice", "k", (("v", ()),)),
            ("choice", "k", (("v", ("number", "truth", "k")),) * 4),
        ):
            self.assertTrue(is_declaration(thing), thing)
        for thing in (
            ("row", "k", "row"), ("row", "k"), ("row", "number", "number"), ("row", "k", ("number",)),
            ("choice", "k", ()), ("choice", "k", (("v", ()),) * 5), ("choice", "k", [("v", ())]),
            ("choice", "k", (("v", ("number",) * 4),)), ("choice", "k", (("v", ["number"]),)),
            ("choice", "k", (["v", ()],)), ("choice", "k", (("v",),)), ("choice", "k", (("v", (), ()),)),
            ("choice", "k", (("of", ()),)), ("choice", "truth", (("v", ()),)), ("choice", "k", (("v", ("of",)),)),
            ("choice", "k", "v"), ("rows", "k", "number"), ("rows", "k", (("v", ()),)), ["row", "k", "number"], ("row", "k", "number", ()), (), None,
        ):
            self.assertFalse(is_declaration(thing), thing)

    def test_units(self):
        function = ("function", "f", (), ())
        row = ("row", "k", "number")
        names = ("a", "b", "c", "d", "e")
        self.assertTrue(is_unit(("unit", "a", (), (), ())))
        self.assertTrue(is_unit(("unit", "a", names, (row,) * 8, (function,) * 8)))
        for thing in (
            ("unit", "a", names + ("f",), (), ()), ("unit", "a", (), (row,) * 9, ()),
            ("unit", "a", (), (), (function,) * 9), ("unit", "unit", (), (), ()), ("unit", "a", [], (), ()),
            ("unit", "a", (), [], ()), ("unit", "a", (), (), []), ("unit", "a", ("of",), (), ()),
            ("unit", "a", (), (function,), ()), ("unit", "a", (), (), (row,)), ("unit", "a", (), ()),
            ("unit", "a", (), (), (), ()), ("units", "a", (), (), ()), ["unit", "a", (), (), ()],
        ):
            self.assertFalse(is_unit(thing), thing)

    def test_right_units_and_one_thing_changed(self):
        rng = random.Random(3)
        for _ in range(12):
            tree = random_trees.unit(rng, 2)
            self.assertTrue(is_unit(tree))
            for turn in (as_list, as_bool, as_number):
                for other in changed(tree, turn):
                    self.assertFalse(is_unit(other))

    def test_any_value(self):
        for thing in odd_values():
            self.assertFalse(is_function(thing))
            self.assertFalse(is_declaration(thing))
            self.assertEqual(is_unit(thing), thing == ("unit", "a", (), (), ()), repr(thing)[:80])


class Walking(unittest.TestCase):
    F = ("function", "f", ("a",), (
        ("let", "x", ("call", "g", (("call", "h", ()), ("plus", ("call", "i", ()), ("call", "h", ()))))),
        ("if", ("call", "j", ()), (("show", ("call", "k", ())), ("while", A, (("fail", ONE),))),
         (("set", "x", ("not", ("call", "l", ()))),)),
        ("match", ("make", "v", (("call", "m", ()),)), (
            ("v", (), (("show", ("at", "r", ("call", "n", ()), ("call", "o", ()))),)),
            ("w", (), (("put", "r", ("call", "p", ()), ("call", "q", ()), ("call", "r", ())),)),
        )),
        ("try", "y", ("call", "s", (("call", "t", ()),)), "z", ("long", "r", ("call", "u", ()))),
        ("return", ("new", "r", ("call", "v", ()), ("call", "w", ()))),
    ))

    def test_statements(self):
        words = [statement[0] for statement in statements(self.F)]
        self.assertEqual(
            words, ["let", "if", "show", "while", "fail", "set", "match", "show", "put", "try", "return"]
        )
        self.assertEqual(statements(function=("function", "f", (), ())), [])
        block = self.F[3]
        self.assertEqual(statements(self.F)[1], block[1])
        self.assertEqual(statements(self.F)[5], block[1][3][0])

    def test_calls(self):
        told = list("ghih") + list("jkl") + list("mnopqr") + list("stu") + list("vw")
        self.assertEqual(calls_in(self.F), told)
        self.assertEqual(calls_in(self.F[3]), told)
        self.assertEqual(calls_in(tree=self.F[3][0][2]), list("ghih"))
        self.assertEqual(calls_in(()), [])
        self.assertEqual(calls_in(ONE), [])

    def test_depth(self):
        self.assertEqual(depth(A), 1)
        self.assertEqual(depth(("call", "f", ())), 1)
        self.assertEqual(depth(("make", "v", ())), 1)
        self.assertEqual(depth(("call", "f", (A, ("not", A)))), 3)
        self.assertEqual(depth(("plus", ("plus", A, A), A)), 3)
        self.assertEqual(depth(("at", "k", A, ("not", ("not", A)))), 4)
        self.assertEqual(depth(()), 1)
        self.assertEqual(depth((("show", A),)), 2)
        self.assertEqual(depth((("show", A), ("let", "x", ("not", A)))), 3)
        self.assertEqual(depth((("while", A, ()),)), 2)
        self.assertEqual(depth((("while", A, (("while", A, ()),)),)), 3)
        self.assertEqual(depth((("if", A, (), (("show", ("not", A)),)),)), 4)
        self.assertEqual(depth(tree=(("match", A, (("v", (), ()), ("w", (), (("show", A),)))),)), 3)
        self.assertEqual(depth((("try", "x", ("call", "f", (("not", A),)), "y", A),)), 4)
        self.assertEqual(depth((("try", "x", ("call", "f", ()), "y", ("not", A)),)), 3)
        self.assertEqual(depth((("put", "k", A, A, ("not", ("not", A))),)), 4)

    def test_wrong_values(self):
        for thing in odd_values():
            if not is_function(thing):
                self.assertRaises(BadTree, statements, thing)
            if not is_expression(thing) and not is_block(thing):
                self.assertRaises(BadTree, calls_in, thing)
                self.assertRaises(BadTree, depth, thing)
        self.assertRaises(BadTree, depth, self.F)
        self.assertRaises(BadTree, calls_in, ("unit", "a", (), (), ()))
        self.assertRaises(BadTree, calls_in, [])
        self.assertRaises(BadTree, statements, ())

    def test_lists_are_new(self):
        one = statements(self.F)
        one.clear()
        self.assertEqual(len(statements(self.F)), 11)


if __name__ == "__main__":
    unittest.main()
