"""Points 13 to 17: reading, what can stand where, writing, and places."""

import random
import unittest

import random_trees
from grammar import Follower
from odd_values import odd_values
from stopanywhere.errors import BadPlace, BadText, BadTree
from stopanywhere.texts import (
    block_text, can_follow, expression_text, places_of, point_at, read_block, read_expression, read_unit, unit_text,
    words_of,
)
from stopanywhere.trees import is_block, is_expression, is_unit
from stopanywhere.words import KEPT, sort_of

A, B, C, D = [("name", letter) for letter in "abcd"]
SIGNS = "( ) { } , : = | + - * < <= ==".split()
SORTS = ["name", "figures"] + list(KEPT) + SIGNS
BEGINNINGS = ("fail", "if", "let", "match", "put", "return", "set", "show", "try", "while")
THINGS = ("(", "at", "false", "figures", "long", "make", "name", "new", "true")
BEHIND_C = ("and", "or")
BEHIND_THING = tuple(sorted(("*", "+", "-", "<", "<=", "==", "over", "rest") + BEHIND_C))


def joined(*sorts):
    return tuple(sorted(name for sort in sorts for name in ([sort] if isinstance(sort, str) else sort)))


class Case(unittest.TestCase):
    def refused(self, read, text, line, column, wanted):
        with self.assertRaises(BadText) as caught:
            read(text)
        told = caught.exception
        self.assertEqual((told.line, told.column, told.wanted), (line, column, wanted), text)


class Expressions(Case):
    def test_levels(self):
        for text, tree in (
            ("a - b - c", ("minus", ("minus", A, B), C)),
            ("a - (b - c)", ("minus", A, ("minus", B, C))),
            ("a + b * c", ("plus", A, ("times", B, C))),
            ("a * b over c rest d", ("rest", ("over", ("times", A, B), C), D)),
            ("a + b < c - d", ("less", ("plus", A, B), ("minus", C, D))),
            ("not a == b", ("not", ("same", A, B))),
            ("not not a and b", ("and", ("not", ("not", A)), B)),
            ("a or b and c or d", ("or", ("or", A, ("and", B, C)), D)),
            ("a and not b <= c", ("and", A, ("not", ("atmost", B, C)))),
            ("(a or b) and c", ("and", ("or", A, B), C)),
            ("(not a) == b", ("same", ("not", A), B)),
            ("(a < b) < c", ("less", ("less", A, B), C)),
            ("a - -5", ("minus", A, ("number", -5))),
            ("a - 5", ("minus", A, ("number", 5))),
            ("true or false", ("or", ("truth", True), ("truth", False))),
            ("f()", ("call", "f", ())),
            ("f(a, 0, g(b))", ("call", "f", (A, ("number", 0), ("call", "g", (B,))))),
            ("make v", ("make", "v", ())),
            ("make v(a)", ("make", "v", (A,))),
            ("new k(a, b)", ("new", "k", A, B)),
            ("at k(a, b) + long k(a)", ("plus", ("at", "k", A, B), ("long", "k", A))),
            ("123456789012 * -123456789012", ("times", ("number", 123456789012), ("number", -123456789012))),
        ):
            self.assertEqual(read_expression(text), tree, text)
            self.assertEqual(expression_text(tree), text)

    def test_parentheses_that_can_be_spared(self):
        for text, told in (
            ("((a))", "a"), ("(a - b) - c", "a - b - c"), ("a+(b*c)", "a + b * c"), ("not(a)", "not a"),
            ("(not (a < b)) and (c)", "not a < b and c"), ("f((a),(b+c))", "f(a, b + c)"), ("( a\nor b)or c", "a or b or c"),
            ("f ( a )", "f(a)"), ("make  v ( (a) )", "make v(a)"),
        ):
            self.assertEqual(expression_text(read_expression(text)), told)

    def test_a_minus_sign_without_a_blank(self):
        self.refused(read_expression, "a -5", 1, 3, joined(BEHIND_THING, "(", "end"))
        self.refused(read_expression, "a-5", 1, 2, joined(BEHIND_THING, "(", "end"))
        self.assertEqual(read_expression("a- 5"), ("minus", A, ("number", 5)))
        self.assertEqual(read_expression("a-b"), ("minus", A, B))

    def test_comparisons_one_behind_another(self):
        for first in ("<", "<=", "=="):
            for second in ("<", "<=", "=="):
                wanted = joined(BEHIND_C, "end", "(", "*", "+", "-", "over", "rest")
                self.refused(read_expression, f"a {first} b {second} c", 1, 6 + len(first), wanted)
        self.assertEqual(read_expression("a < b and c < d")[0], "and")

    def test_not_where_it_cannot_stand(self):
        for text in ("a + not b", "a < not b", "a * not b", "f(a) - not b"):
            self.refused(read_expression, text, 1, text.index("not") + 1, THINGS)
        self.assertEqual(read_expression("a and not b"), ("and", A, ("not", B)))

    def test_twelve_parentheses_and_thirteen(self):
        self.assertEqual(read_expression("(" * 12 + "a" + ")" * 12), A)
        wanted = joined("not", [thing for thing in THINGS if thing != "("])
        self.refused(read_expression, "(" * 13 + "a" + ")" * 13, 1, 13, wanted)
        self.refused(read_expression, "(" * 12, 1, 13, wanted)
        self.refused(read_expression, "(" * 11, 1, 12, joined("not", THINGS))
        # Calls are no parentheses, and parentheses beside one another do not lie in one another.
        self.assertEqual(read_expression("f(" * 13 + "a" + ")" * 13)[0], "call")
        self.assertEqual(read_expression("(" * 12 + "f(a)" + ")" * 12), ("call", "f", (A,)))
        self.refused(read_expression, "(" * 12 + "f((a))", 1, 15, joined(wanted, ")"))
        self.assertEqual(read_expression("(" * 12 + "a" + ")" * 12 + "+" + "(" * 12 + "b" + ")" * 12), ("plus", A, B))
        self.refused(read_expression, "(a) + (b) * " + "(" * 13, 1, 25, wanted)
        self.refused(read_expression, "f((a)) + (b) * " + "(" * 13, 1, 28, wanted)

    def test_three_arguments_and_four(self):
        for head in ("f", "make f"):
            self.assertEqual(len(read_expression(head + "(a, b, c)")[2]), 3)
            text = head + "(a, b, c, d)"
            self.refused(read_expression, text, 1, text.index(", d") + 1, joined(BEHIND_THING, "(", ")"))
        self.refused(read_expression, "new k(a)", 1, 8, joined(BEHIND_THING, "(", ","))
        self.refused(read_expression, "at k(a, b, c)", 1, 10, joined(BEHIND_THING, "(", ")"))
        self.refused(read_expression, "long k(a, b)", 1, 9, joined(BEHIND_THING, "(", ")"))
        self.refused(read_expression, "make v()", 1, 8, joined(THINGS, "not"))

    def test_text_that_ends_too_early(self):
        self.refused(read_expression, "", 1, 1, joined(THINGS, "not"))
        self.refused(read_expression, " \n ", 2, 2, joined(THINGS, "not"))
        self.refused(read_expression, "a +", 1, 4, THINGS)
        self.refused(read_expression, "a +\n", 2, 1, THINGS)
        self.refused(read_expression, "make", 1, 5, ("name",))
        self.refused(read_expression, "new k", 1, 6, ("(",))
        self.refused(read_expression, "f(", 1, 3, joined(THINGS, "not", ")"))

    def test_strange_words_never_stand(self):
        for word in ("007", "-0", "Abc", "a1", "abcdefghi", "$"):
            self.refused(read_expression, word, 1, 1, joined(THINGS, "not"))
            self.refused(read_expression, "1 " + word, 1, 3, joined(BEHIND_THING, "end"))


class Blocks(Case):
    BLOCK = (
        ("let", "x", A), ("set", "x", ("or", A, B)), ("put", "k", A, ("minus", B, C), D), ("show", A),
        ("if", A, (("show", B),), ()), ("if", A, (), (("show", B), ("if", B, (), (("fail", C),)))),
        ("while", A, (("while", B, ()),)),
        ("match", ("make", "v", ()), (("v", (), ()), ("w", ("x", "y"), (("return", A),)))),
        ("try", "x", ("call", "f", (A, B)), "y", ("plus", A, B)), ("return", A), ("fail", ("number", -1)),
    )
    TEXT = """\
let x = a
set x = a or b
put k(a, b - c) = d
show a
if a {
  show b
}
if a {
} else {
  show b
  if b {
  } else {
    fail c
  }
}
while a {
  while b {
  }
}
match make v {
  v {
  }
  w(x, y) {
    return a
  }
}
try x = f(a, b) else y : a + b
return a
fail -1
"""

    def test_each_statement(self):
        self.assertEqual(block_text(self.BLOCK), self.TEXT)
        self.assertEqual(read_block(self.TEXT), self.BLOCK)
        self.assertEqual(read_block(" ".join(self.TEXT.split())), self.BLOCK)
        self.assertEqual(read_block(text="if a{}else{}"), (("if", A, (), ()),))
        self.assertEqual(block_text(()), "")
        self.assertEqual(read_block(""), ())
        self.assertEqual(read_block("\n "), ())

    def test_expressions_of_statements_need_no_parentheses(self):
        e = ("or", A, ("and", B, C))
        for statement in (
            ("let", "x", e), ("set", "x", e), ("put", "k", e, e, e), ("show", e), ("if", e, (), (("show", e),)),
            ("while", e, ()), ("match", e, (("v", (), ()),)), ("return", e), ("fail", e),
            ("try", "x", ("call", "f", (e, e)), "y", e),
        ):
            text = block_text((statement,))
            outer = ("f(", "k(") if statement[0] in ("put", "try") else ()
            self.assertEqual(text.count("("), len(outer[:1]), text)
            self.assertEqual(read_block(text), (statement,))

    def test_four_branches_and_five(self):
        self.assertEqual(len(read_block("match a { v { } v { } v { } v { } }")[0][2]), 4)
        self.refused(read_block, "match a { v { } v { } v { } v { } v { } }", 1, 35, ("}",))
        self.refused(read_block, "match a { }", 1, 11, ("name",))
        self.assertEqual(len(read_block("match a { v(x, y, z) { } }")[0][2][0][1]), 3)
        self.refused(read_block, "match a { v(x, y, z, z) { } }", 1, 20, (")",))
        self.refused(read_block, "match a { v() { } }", 1, 13, ("name",))

    def test_wrong_words(self):
        behind = joined(BEGINNINGS, "end")
        self.refused(read_block, "}", 1, 1, behind)
        self.refused(read_block, "a = 1", 1, 1, behind)
        self.refused(read_block, "let x == 1", 1, 7, ("=",))
        self.refused(read_block, "let if = 1", 1, 5, ("name",))
        self.refused(read_block, "show a b", 1, 8, joined(BEHIND_THING, "(", BEGINNINGS, "end"))
        self.refused(read_block, "if a { } else if b { }", 1, 15, ("{",))
        self.refused(read_block, "if a { } ,", 1, 10, joined(BEGINNINGS, "else", "end"))
        self.refused(read_block, "while a { } else { }", 1, 13, behind)
        self.refused(read_block, "if a { } else { } else { }", 1, 19, behind)
        self.refused(read_block, "try x = a + 1", 1, 11, ("(",))
        self.refused(read_block, "try x = make v else y : 1", 1, 9, ("name",))
        self.refused(read_block, "try x = f() + 1", 1, 13, ("else",))
        self.refused(read_block, "try x = f() else y = 1", 1, 20, (":",))
        self.refused(read_block, "put k(a) = 1", 1, 8, joined(BEHIND_THING, "(", ","))
        self.refused(read_block, "put k(a, b, c) = 1", 1, 11, joined(BEHIND_THING, "(", ")"))
        self.refused(read_block, "return", 1, 7, joined(THINGS, "not"))
        self.refused(read_block, "if a {", 1, 7, joined(BEGINNINGS, "}"))


class Units(Case):
    TEXT = """\
unit u uses a, b
choice c = v | w(number, truth, c)
row r of c
function f() {
}
function g(x, y, z) {
  if x {
    show y
  }
  return z
}
"""
    UNIT = ("unit", "u", ("a", "b"), (
        ("choice", "c", (("v", ()), ("w", ("number", "truth", "c")))), ("row", "r", "c"),
    ), (
        ("function", "f", (), ()),
        ("function", "g", ("x", "y", "z"), (
            ("if", ("name", "x"), (("show", ("name", "y")),), ()), ("return", ("name", "z")),
        )),
    ))

    def test_a_unit(self):
        self.assertEqual(unit_text(self.UNIT), self.TEXT)
        self.assertEqual(read_unit(self.TEXT), self.UNIT)
        self.assertEqual(read_unit(text="\n  " + " ".join(self.TEXT.split()) + " \n\n"), self.UNIT)
        self.assertEqual(read_unit("unit a"), ("unit", "a", (), (), ()))
        self.assertEqual(unit_text(("unit", "a", (), (), ())), "unit a\n")

    def test_numbers_of_things(self):
        self.assertEqual(len(read_unit("unit u uses a, b, c, d, e")[2]), 5)
        self.refused(read_unit, "unit u uses a, b, c, d, e, f", 1, 26, ("choice", "end", "function", "row"))
        rows = "row r of number\n" * 8
        self.assertEqual(len(read_unit("unit u\n" + rows)[3]), 8)
        self.refused(read_unit, "unit u\n" + rows + "row r of number", 10, 1, ("end", "function"))
        functions = "function f() { }\n" * 8
        self.assertEqual(len(read_unit("unit u\n" + functions)[4]), 8)
        self.refused(read_unit, "unit u\n" + functions + "function f() { }", 10, 1, ("end",))
        self.assertEqual(len(read_unit("unit u choice c = v | v | v | v")[3][0][2]), 4)
        text = "unit u choice c = v | v | v | v | v"
        self.refused(read_unit, text, 1, 33, ("(", "choice", "end", "function", "row"))
        self.assertEqual(len(read_unit("unit u choice c = v(c, c, c)")[3][0][2][0][1]), 3)
        self.refused(read_unit, "unit u choice c = v(c, c, c, c)", 1, 28, (")",))
        self.refused(read_unit, "unit u choice c = v()", 1, 21, ("name", "number", "truth"))
        self.assertEqual(len(read_unit("unit u function f(a, b, c) { }")[4][0][2]), 3)
        self.refused(read_unit, "unit u function f(a, b, c, d) { }", 1, 26, (")",))
        self.refused(read_unit, "unit u function f(a,) { }", 1, 21, ("name",))

    def test_orders_of_things(self):
        self.refused(read_unit, "function f() { }", 1, 1, ("unit",))
        self.refused(read_unit, "a", 1, 1, ("unit",))
        self.refused(read_unit, "unit u function f() { } row r of number", 1, 25, ("end", "function"))
        self.refused(read_unit, "unit u row r of number uses a", 1, 24, ("choice", "end", "function", "row"))
        self.refused(read_unit, "unit unit", 1, 6, ("name",))
        self.refused(read_unit, "unit u row r of 5", 1, 17, ("name", "number", "truth"))

    def test_text_that_ends_too_early(self):
        self.refused(read_unit, "", 1, 1, ("unit",))
        self.refused(read_unit, "\n\n ", 3, 2, ("unit",))
        self.refused(read_unit, "unit", 1, 5, ("name",))
        self.refused(read_unit, "unit \n", 2, 1, ("name",))
        self.refused(read_unit, "unit a function f(", 1, 19, (")", "name"))
        self.refused(read_unit, "unit a\nfunction f() {\n", 3, 1, joined(BEGINNINGS, "}"))

    def test_what_is_no_text(self):
        for thing in ["unit a %", "unit\ta", "unit \u00e9"] + odd_values():
            if isinstance(thing, str) and all(" " <= c <= "~" and c != "%" for c in thing):
                continue
            for read in (read_unit, read_expression, read_block, can_follow, places_of):
                self.refused(read, thing, None, None, None)
            with self.assertRaises(BadText):
                point_at(thing, 0, 0)

    def test_what_is_no_tree(self):
        for thing in odd_values():
            if not is_unit(thing):
                self.assertRaises(BadTree, unit_text, thing)
            if not is_expression(thing):
                self.assertRaises(BadTree, expression_text, thing)
            if not is_block(thing):
                self.assertRaises(BadTree, block_text, thing)
        self.assertRaises(BadTree, unit_text, unit=list(self.UNIT))
        self.assertRaises(BadTree, expression_text, expression=("show", A))
        self.assertRaises(BadTree, block_text, block=[("show", A)])


class CanFollow(Case):
    def test_units(self):
        self.assertEqual(can_follow(""), ("unit",))
        self.assertEqual(can_follow("unit"), ("name",))
        self.assertEqual(can_follow("unit a"), ("choice", "end", "function", "row", "uses"))
        self.assertEqual(can_follow(text="unit a uses b"), (",", "choice", "end", "function", "row"))
        self.assertEqual(can_follow("unit a function f() { }"), ("end", "function"))
        self.assertEqual(can_follow("unit a function f() { return a < b"), tuple(sorted(
            ("(", "*", "+", "-", "and", "or", "over", "rest", "}") + BEGINNINGS)))
        self.refused(can_follow, "unit a b", 1, 8, ("choice", "end", "function", "row", "uses"))
        self.refused(can_follow, "unit a function f() { } $ (", 1, 25, ("end", "function"))

    def sample(self, rng, sort):
        if sort == "name":
            return rng.choice(["a", "plus", "abcdefgh"])
        if sort == "figures":
            return rng.choice(["0", "17", "-3"])
        return sort

    def compare(self, rng, root, read, most):
        """Goes on by random words that can stand, and asks at each of them for all that can and for one that cannot."""
        follower = Follower(root)
        text = ""
        for _ in range(most):
            wanted = follower.wanted()
            if root == "UNIT":
                self.assertEqual(can_follow(text), wanted, text)
            line, column = 1 + text.count("\n"), len(text) - text.rfind("\n")
            if "end" in wanted:
                read(text)
            else:
                self.refused(read, text, line, column, wanted)
            wrong = rng.choice([self.sample(rng, sort) for sort in SORTS if sort not in wanted] + ["$", "a1", "007"])
            self.refused(read, text + wrong + " a", line, column, wanted)
            closing = [sort for sort in wanted if sort in (")", "}", "{", "end")]
            sorts = [sort for sort in wanted if sort != "end"]
            if not sorts:
                return
            sort = rng.choice(closing) if closing and rng.random() < 0.3 else rng.choice(sorts)
            if sort == "end":
                return
            follower.go(sort)
            text += self.sample(rng, sort) + rng.choice([" ", "\n", "  "])

    def test_against_the_grammar(self):
        rng = random.Random(4)
        for _ in range(60):
            self.compare(rng, "UNIT", read_unit, 60)
        for _ in range(60):
            self.compare(rng, "E", read_expression, 40)
        for _ in range(40):
            self.compare(rng, "STATEMENTS", read_block, 40)

    def test_beginnings_of_units(self):
        rng = random.Random(5)
        for _ in range(12):
            words = [word for word, _, _ in words_of(unit_text(random_trees.unit(rng, 3)))][:150]
            follower = Follower("UNIT")
            for at, word in enumerate(words):
                self.assertEqual(can_follow(" ".join(words[:at])), follower.wanted())
                follower.go(sort_of(word))


class RoundTrips(Case):
    def test_units_are_read_as_they_are_written(self):
        rng = random.Random(6)
        for _ in range(120):
            unit = random_trees.unit(rng)
            text = unit_text(unit)
            self.assertEqual(read_unit(text), unit)
            self.assertEqual(unit_text(read_unit(text.replace("\n", " "))), text)
            for line in text.split("\n"):
                self.assertEqual(line, line.rstrip())

    def test_blocks_and_expressions(self):
        rng = random.Random(7)
        for _ in range(200):
            block = random_trees.block(rng, 4)
            self.assertEqual(read_block(block_text(block)), block)
            expression = random_trees.expression(rng, 6)
            self.assertEqual(read_expression(expression_text(expression)), expression)

    def test_no_parentheses_can_be_spared(self):
        rng = random.Random(8)
        seen = 0
        for _ in range(250):
            expression = random_trees.expression(rng, 6)
            words = [word for word, _, _ in words_of(expression_text(expression))]
            for first, last in self.pairs(words):
                seen += 1
                fewer = words[:first] + words[first + 1:last] + words[last + 1:]
                try:
                    self.assertNotEqual(read_expression(" ".join(fewer)), expression)
                except BadText:
                    pass
        self.assertGreater(seen, 300)

    def pairs(self, words):
        found, opened = [], []
        for at, word in enumerate(words):
            if word == "(":
                opened.append(at)
            elif word == ")":
                first = opened.pop()
                if first == 0 or sort_of(words[first - 1]) != "name":
                    found.append((first, at))
        return found

    def test_blanks(self):
        rng = random.Random(9)
        for _ in range(100):
            words = [word for word, _, _ in words_of(expression_text(random_trees.expression(rng, 5)))]
            text = words[0]
            for before, word in zip(words, words[1:]):
                is_close = before == "(" or word in (")", ",") or (word == "(" and sort_of(before) == "name")
                text += word if is_close else " " + word
            self.assertEqual(expression_text(read_expression(" ".join(words))), text)


class Places(Case):
    TEXT = """unit u
function g() { show 1 }
function f(a) {
  if a {
    show 1 let x =
      22
  } else { }

  match make v { v { show 3 } }
}
function g() {
  return 1 }
"""

    def test_places(self):
        found = places_of(self.TEXT)
        self.assertEqual(found, {"f": ((4, 3), (5, 5), (5, 12), (9, 3), (9, 22)), "g": ((12, 3),)})
        self.assertEqual(list(found), ["f", "g"])
        self.assertEqual(places_of(text="unit a"), {})
        self.assertEqual(places_of("unit a function f() { }"), {"f": ()})

    def test_points(self):
        for line, column, told in (
            (4, 3, ("f", 0)), (4, 2, None), (4, 8, ("f", 0)), (5, 4, ("f", 0)), (5, 5, ("f", 1)), (5, 10, ("f", 1)),
            (5, 11, ("f", 0)), (5, 12, ("f", 2)), (6, 1, ("f", 2)), (6, 8, ("f", 2)), (6, 9, ("f", 0)),
            (7, 12, ("f", 0)), (7, 13, None), (8, 1, None), (9, 21, ("f", 3)), (9, 22, ("f", 4)), (9, 27, ("f", 4)),
            (9, 28, ("f", 3)), (9, 29, ("f", 3)), (9, 31, ("f", 3)), (9, 32, None), (2, 16, None), (12, 3, ("g", 0)),
            (12, 10, ("g", 0)), (12, 11, None), (1, 1, None), (99, 1, None), (1, 99, None),
        ):
            self.assertEqual(point_at(self.TEXT, line, column), told, (line, column))
        self.assertEqual(point_at(text=self.TEXT, line=4, column=3), ("f", 0))

    def test_random_units(self):
        rng = random.Random(10)
        for _ in range(30):
            unit = random_trees.unit(rng)
            text = unit_text(unit)
            for name, places in places_of(text).items():
                for point, (line, column) in enumerate(places):
                    self.assertEqual(point_at(text, line, column), (name, point))

    def test_wrong_places(self):
        for thing in odd_values():
            if not (isinstance(thing, int) and not isinstance(thing, bool) and thing >= 1):
                self.assertRaises(BadPlace, point_at, self.TEXT, thing, 1)
                self.assertRaises(BadPlace, point_at, self.TEXT, 1, thing)
        self.refused(lambda text: point_at(text, 0, 0), "unit", 1, 5, ("name",))
        self.refused(places_of, "unit a }", 1, 8, ("choice", "end", "function", "row", "uses"))


if __name__ == "__main__":
    unittest.main()
