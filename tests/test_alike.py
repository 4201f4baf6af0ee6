"""Point 18: units that are alike but for names."""

import random
import unittest

import random_trees
from odd_values import odd_values
from random_programs import random_units
from stopanywhere.alike import is_like, with_names
from stopanywhere.errors import BadNames, BadTree, KindClash
from stopanywhere.plain import Program, told_run
from stopanywhere.texts import read_unit, unit_text, words_of
from stopanywhere.trees import is_unit
from stopanywhere.words import is_name

ONE = """
unit u uses b, c
choice k = v | w(number, k, r)
row r of k
function f(x, y) { let z = x match make v { v { } w(p, q, o) { show p } } return g(z) }
function g(x) { put r(x, 1) = make w(1, make v, new r(1, x)) try y = f(x, 1) else e: e set x = long r(x)
 return at r(x, 0) }
"""


class Like(unittest.TestCase):
    def like(self, one, other):
        found = is_like(read_unit(one), read_unit(other))
        self.assertEqual(is_like(one=read_unit(other), other=read_unit(one)), found)
        return found

    def test_itself_and_other_names(self):
        self.assertTrue(self.like(ONE, ONE))
        self.assertTrue(self.like("unit a", "unit b"))
        self.assertTrue(self.like("unit a uses b, c", "unit b uses a, d"))
        self.assertTrue(self.like("unit a uses b, b", "unit b uses a, a"))
        self.assertFalse(self.like("unit a uses b, b", "unit b uses a, c"))
        self.assertFalse(self.like("unit a uses a", "unit a uses b"))
        self.assertFalse(self.like("unit a uses b", "unit a"))

    def test_sorts_are_apart(self):
        self.assertTrue(self.like(
            "unit a choice a = a function a(a) { return a(a) }", "unit a choice b = c function d(e) { return d(e) }"
        ))
        self.assertTrue(self.like(
            "unit a row k of k function f(x) { return new k(x, make v) }",
            "unit a row x of x function v(k) { return new x(k, make f) }",
        ))
        self.assertFalse(self.like("unit a row k of k", "unit a row k of l"))
        self.assertFalse(self.like("unit a row k of number", "unit a row k of truth"))
        self.assertFalse(self.like("unit a row k of number", "unit a row k of k"))
        self.assertFalse(self.like("unit a choice k = v | v", "unit a choice k = v | w"))

    def test_variables_of_each_function_are_for_themselves(self):
        one = "unit a function f(x, y) { return x } function g(x, y) { return x }"
        self.assertTrue(self.like(one, "unit a function f(x, y) { return x } function g(y, x) { return y }"))
        self.assertFalse(self.like(one, "unit a function f(x, y) { return x } function g(y, x) { return x }"))
        self.assertFalse(self.like(one, "unit a function f(x, x) { return x } function g(x, y) { return x }"))

    def test_each_place_of_a_name_counts(self):
        tree = read_unit(ONE)
        words = [word for word, _, _ in words_of(ONE)]
        seen = 0
        for at, word in enumerate(words):
            if is_name(word):
                seen += 1
                other = read_unit(" ".join(words[:at] + ["fresh"] + words[at + 1:]))
                # These stand once each, among the names of their sort and function.
                self.assertEqual(is_like(tree, other), word in ("u", "b", "c", "q", "o", "y"), (at, word))
        self.assertGreater(seen, 40)

    # Each name has a digit or none behind it: names with the same letters and digit name one thing.
    GROUPS = (
        "unit a0 uses b0 , c0 choice k1 = v2 | w2 ( number , k1 , r1 ) row r1 of k1 choice a1 = a2 "
        "function f3 ( a4 , y4 ) { let z4 = a4 match make v2 { v2 { set z4 = a4 } w2 ( p4 , q4 , o4 ) { show p4 + q4 } } "
        "if z4 { put r1 ( o4 , y4 ) = make w2 ( y4 , make v2 , new r1 ( y4 , make a2 ) ) } else { while y4 { fail z4 } } "
        "try t4 = g3 ( at r1 ( o4 , long r1 ( o4 ) ) ) else e4 : e4 + t4 return f3 ( t4 , a4 ) + g3 ( e4 ) } "
        "function g3 ( a5 ) { try y5 = g3 ( a5 ) else z5 : z5 + y5 return not y5 == a5 } "
    )

    def test_names_of_one_thing_are_put_together(self):
        tokens = self.GROUPS.split()
        places = {}
        for at, token in enumerate(tokens):
            if token[-1] in "012345":
                places.setdefault(token, []).append(at)
        plain = [token.rstrip("012345") for token in tokens]
        tree = read_unit(" ".join(plain))
        rng = random.Random(31)
        for token, told in places.items():
            ways = [told, told[:1], told[1:], told[:-1], told[-1:]] + [[at for at in told if rng.random() < 0.5] for _ in range(6)]
            for some in ways:
                words = list(plain)
                for at in some:
                    words[at] = "fresh"
                other = read_unit(" ".join(words))
                self.assertEqual(is_like(tree, other), len(some) in (0, len(told)), (token, some))
                self.assertEqual(is_like(other, tree), len(some) in (0, len(told)), (token, some))

    def test_numbers_and_truths_count(self):
        head, end = "unit a function f() { return ", " }"
        self.assertFalse(self.like(head + "1" + end, head + "2" + end))
        self.assertFalse(self.like(head + "1" + end, head + "true" + end))
        self.assertFalse(self.like(head + "0" + end, head + "false" + end))
        self.assertFalse(self.like(head + "true" + end, head + "false" + end))
        self.assertFalse(self.like(head + "a + b" + end, head + "a - b" + end))

    def test_wrong_values(self):
        tree = read_unit(ONE)
        for thing in odd_values():
            if not is_unit(thing):
                self.assertRaises(BadTree, is_like, thing, tree)
                self.assertRaises(BadTree, is_like, tree, thing)
                self.assertRaises(BadTree, with_names, thing, {})
                self.assertRaises(BadTree, with_names, thing, 1)


class WithNames(unittest.TestCase):
    def test_whatever_they_name(self):
        tree = read_unit(
            "unit a uses b choice a = b(a) row b of a function a(b) { let a = make b(b) set b = new b(a, a(b)) "
            "match a { b(a) { show a } } try b = a(b) else a: a put b(a, b) = at b(b, a) return long b(a) }"
        )
        told = unit_text(with_names(unit=tree, names={"a": "plus", "b": "a"}))
        self.assertEqual(told.split(), unit_text(read_unit(
            "unit plus uses a choice plus = a(plus) row a of plus function plus(a) { let plus = make a(a) "
            "set a = new a(plus, plus(a)) match plus { a(plus) { show plus } } try a = plus(a) else plus: plus "
            "put a(plus, a) = at a(a, plus) return long a(plus) }"
        )).split())

    def test_words_of_trees_stay(self):
        tree = read_unit("unit call function plus(less) { return less + less * plus(1) }")
        found = with_names(tree, {"plus": "minus", "less": "name", "times": "over" + "x"})
        self.assertEqual(found, read_unit("unit call function minus(name) { return name + name * minus(1) }"))

    def test_exchanged(self):
        tree = read_unit("unit a uses b function f(x) { return x }")
        self.assertEqual(with_names(tree, {"a": "b", "b": "a"}), read_unit("unit b uses a function f(x) { return x }"))
        self.assertEqual(with_names(tree, {}), tree)
        self.assertEqual(with_names(tree, {"z": "a"}), tree)

    def test_two_that_would_become_one(self):
        tree = read_unit("unit a uses b function f(x) { return x }")
        for names in ({"a": "b"}, {"x": "f"}, {"f": "x"}, {"x": "a"}, {"b": "x", "a": "z"}):
            self.assertRaises(BadNames, with_names, tree, names)
        self.assertEqual(with_names(tree, {"x": "f", "f": "x"})[4][0][1], "x")

    def test_wrong_names(self):
        tree = read_unit("unit a function f(x) { return x }")
        for names in (
            {"p": "y", "q": "y"}, {"a": "if"}, {"if": "a"}, {"a": 1}, {1: "a"}, {"a": None}, {"A": "b"}, {True: "b"},
            {"a": "abcdefghi"}, {"a": ["b"]}, [("a", "b")], (), None, "a", {("a",): "b"},
        ):
            self.assertRaises(BadNames, with_names, tree, names)
        for thing in odd_values():
            if not isinstance(thing, dict) or thing:
                self.assertRaises(BadNames, with_names, tree, thing)

    def test_nothing_is_changed(self):
        names = {"a": "b"}
        with_names(read_unit("unit a"), names)
        self.assertEqual(names, {"a": "b"})

    def test_the_unit_is_like_it(self):
        rng = random.Random(11)
        for _ in range(60):
            tree = random_trees.unit(rng, 3)
            names = {name: "x" + name[:7] for name in random_trees.NAMES}
            self.assertTrue(is_like(tree, with_names(tree, names)))
            shuffled = random_trees.NAMES[:]
            rng.shuffle(shuffled)
            other = with_names(tree, dict(zip(random_trees.NAMES, shuffled)))
            self.assertTrue(is_like(tree, other))
            self.assertTrue(is_like(other, tree))

    def test_runs_hang_on_no_name(self):
        rng = random.Random(12)
        seen = 0
        while seen < 15:
            units = random_units(rng, 1)
            names = {name: "q" + name[:7] for name in self.names_of(units[0])}
            try:
                one = Program(units)
            except KindClash:
                continue
            other = Program([with_names(units[0], names)])
            function = units[0][4][0]
            arguments = [1 if kind == "number" else True for kind in one.faces[units[0][1]][3][0][1]]
            self.assertEqual(one.faces[units[0][1]][3][0][0], function[1])
            first = told_run(one, function[1], arguments, 80)
            second = told_run(other, names[function[1]], arguments, 80)
            self.assertEqual(first[0], second[0])
            self.assertEqual(first[1][:1], second[1][:1])
            self.assertEqual(len(first[2]), len(second[2]))
            seen += 1

    def names_of(self, tree):
        return sorted({word for word, _, _ in words_of(unit_text(tree)) if is_name(word)})


if __name__ == "__main__":
    unittest.main()
