"""Points 20 to 24: what is in sight, faults, and the order of units."""

import itertools
import random
import unittest

import random_trees
from odd_values import odd_values
from random_programs import random_units
from stopanywhere.errors import BadFaces, BadPoint, BadTree, BadUnit, BadUnits, NoUnit, UsesRing
from stopanywhere.names import does_end, faults, in_sight, order_of, users_of
from stopanywhere.texts import read_block, read_unit
from stopanywhere.trees import is_block, is_function, is_unit, statements

FACE_B = ("face", "b", (("choice", "k", (("v", ()), ("w", ("number", "k")))), ("row", "r", "k")), (
    ("f", ("number", "k"), "truth"), ("g", (), "r"),
))
FACE_C = ("face", "c", (("row", "s", "truth"),), ())


def told(text, faces=None):
    return faults(read_unit(text), faces or {})


def body(block, faces=None, head="unit u", parameters=""):
    """The faults of a function h of these statements."""
    return told(head + " function h(" + parameters + ") { " + block + " }", faces)


class InSight(unittest.TestCase):
    def sights(self, text):
        function = read_unit("unit u " + text)[4][0]
        return ["".join(in_sight(function, point)) for point in range(len(statements(function)))]

    def test_lets_and_blocks(self):
        self.assertEqual(self.sights(
            "function f(p) { let a = p if a { let b = a show b } else { let c = a show c } while a { let d = a } show a }"
        ), ["p", "pa", "pa", "pab", "pa", "pac", "pa", "pa", "pa"])

    def test_branches_and_tries(self):
        self.assertEqual(self.sights(
            "function f() { match make v { v(a, b) { let c = a show c } w { show 1 } } try d = f() else e: e show d }"
        ), ["", "ab", "abc", "", "", "d"])

    def test_a_name_let_again(self):
        self.assertEqual(self.sights(
            "function f(p, q, p) { let q = 1 let a = 1 if p { let b = 1 let a = 2 show a } let b = 1 let a = 1 show b }"
        ), ["pq", "pq", "pqa", "pqa", "pqab", "pqab", "pqa", "pqab", "pqab"])
        self.assertEqual(self.sights(
            "function f() { if true { let a = 1 show a } show 1 let b = 1 let a = 1 show a match b { v(c, b) { show c } } }"
        ), ["", "", "a", "", "", "b", "ba", "ba", "bac"])

    def test_random_functions(self):
        rng = random.Random(13)
        for _ in range(60):
            function = random_trees.function(rng, 4)
            found = {}
            self.go(function[3], list(function[2]), found, [0])
            for point in range(len(statements(function))):
                self.assertEqual(in_sight(function, point), found[point])

    def go(self, block, names, found, count):
        for statement in block:
            found[count[0]] = tuple(name for at, name in enumerate(names) if name not in names[:at])
            count[0] += 1
            if statement[0] == "match":
                for _, more, inner in statement[2]:
                    self.go(inner, names + list(more), found, count)
            for inner in statement[2:]:
                if statement[0] in ("if", "while"):
                    self.go(inner, list(names), found, count)
            if statement[0] in ("let", "try"):
                names = names + [statement[1]]

    def test_wrong_values(self):
        function = ("function", "f", ("p",), (("return", ("name", "p")),))
        self.assertEqual(in_sight(function=function, point=0), ("p",))
        for thing in odd_values():
            if not is_function(thing):
                self.assertRaises(BadTree, in_sight, thing, 0)
            if not (thing == 0 and not isinstance(thing, bool)):
                self.assertRaises(BadPoint, in_sight, function, thing)
        self.assertRaises(BadPoint, in_sight, ("function", "f", (), ()), 0)
        self.assertRaises(BadTree, in_sight, (), None)


class Ends(unittest.TestCase):
    def test_blocks(self):
        for text, is_end in (
            ("", False), ("return a", True), ("fail a", True), ("show a", False), ("return a show a", False),
            ("show a return a", True), ("if a { return a }", False), ("if a { return a } else { }", False),
            ("if a { return a } else { fail a }", True), ("if a { } else { fail a }", False),
            ("while true { return a }", False), ("match a { v { return a } }", True),
            ("match a { v { return a } w { } }", False), ("match a { v { return a } w { fail a } }", True),
            ("if a { if b { fail a } else { return a } } else { match a { v { fail a } } }", True),
            ("if a { return a } else { fail a } show a", False), ("try a = f() else b: b", False), ("let a = a", False),
        ):
            self.assertEqual(does_end(read_block(text)), is_end, text)
        self.assertFalse(does_end(block=()))

    def test_wrong_values(self):
        for thing in odd_values():
            if not is_block(thing):
                self.assertRaises(BadTree, does_end, thing)
        self.assertRaises(BadTree, does_end, [("return", ("name", "a"))])


class FaultsOfUnits(unittest.TestCase):
    def test_uses(self):
        unit = read_unit("unit b uses c, b, c, b")
        self.assertEqual(faults(unit, {"b": ("face", "b", (), ()), "c": FACE_C}), [
            (None, None, "uses", "b"), (None, None, "uses", "c"), (None, None, "uses", "b"),
        ])

    def test_kinds_of_faces(self):
        lost = ("face", "d", (("choice", "x", (("y", ("o", "number", "p")), ("z", ("o", "x")))), ("row", "q", "t")), (
            ("i", ("m", "truth", "m"), "n"),
        ))
        other = ("face", "a", (("row", "o", "number"),), (("j", (), "n"),))
        unit = read_unit("unit u uses d, a row m of number choice e = p")
        self.assertEqual(faults(unit, {"d": lost, "a": other}), [
            (None, None, "kind", "n"), (None, None, "kind", "p"), (None, None, "kind", "t"), (None, None, "kind", "n"),
        ])
        self.assertEqual(faults(read_unit("unit u uses d"), {"d": lost}), [
            (None, None, "kind", name) for name in ("o", "p", "o", "t", "m", "m", "n")
        ])

    def test_names_told_again(self):
        self.assertEqual(told(
            "unit u uses b choice k = v | n(x) row r of y choice m = f | m | n choice a = b(a, a, z) row a of number "
            "function f() { return 1 } function u() { return 1 } function u() { return 1 } function n() { return 1 } "
            "function g() { return 1 }", {"b": FACE_B}
        ), [
            (None, None, "again", "k"), (None, None, "again", "v"), (None, None, "kind", "x"),
            (None, None, "again", "r"), (None, None, "kind", "y"),
            (None, None, "again", "f"), (None, None, "again", "m"), (None, None, "again", "n"),
            (None, None, "kind", "z"), (None, None, "again", "a"),
            (None, None, "again", "f"), (None, None, "again", "u"), (None, None, "again", "n"),
            (None, None, "again", "g"),
        ])

    def test_kinds_may_have_themselves_and_later_ones(self):
        self.assertEqual(told("unit u choice a = b(a, c) row c of d row d of d"), [])
        self.assertEqual(told("unit u uses b choice a = c(k, r)", {"b": FACE_B}), [])
        self.assertEqual(told("unit u uses b choice a = c(v)", {"b": FACE_B}), [(None, None, "kind", "v")])

    def test_parameters_and_order_of_functions(self):
        self.assertEqual(told(
            "unit u function f(a, a, a) { show x return 1 } function e(b, b) { show a }"
        ), [
            ("f", None, "again", "a"), ("f", None, "again", "a"), ("f", 0, "unknown", "x"), ("e", None, "again", "b"),
            ("e", 0, "unknown", "a"), ("e", None, "open", ""),
        ])

    def test_sound_units(self):
        rng = random.Random(14)
        for _ in range(40):
            for unit in random_units(rng, 1):
                self.assertEqual(faults(unit, {}), [])

    def test_list_is_new(self):
        unit = read_unit("unit u function f() { }")
        faults(unit, {}).clear()
        self.assertEqual(faults(unit=unit, faces={}), [("f", None, "open", "")])


class FaultsOfStatements(unittest.TestCase):
    def test_never(self):
        self.assertEqual(body("return 1 show 1 show x return 1"), [("h", 1, "never", ""), ("h", 2, "unknown", "x")])
        self.assertEqual(body("if true { fail 1 } else { fail 1 fail 1 } return 1"), [
            ("h", 3, "never", ""), ("h", 4, "never", ""),
        ])
        self.assertEqual(body("while true { return 1 } return 1"), [])
        self.assertEqual(body("if true { return 1 } return 1"), [])
        self.assertEqual(body("return 1 set x = y"), [
            ("h", 1, "never", ""), ("h", 1, "unknown", "y"), ("h", 1, "unknown", "x"), ("h", None, "open", ""),
        ])

    def test_open(self):
        self.assertEqual(body(""), [("h", None, "open", "")])
        self.assertEqual(body("while true { return 1 }"), [("h", None, "open", "")])

    def test_names_out_of_sight(self):
        self.assertEqual(body("let a = a show a set b = c if true { let d = 1 } show d return 1"), [
            ("h", 0, "unknown", "a"), ("h", 2, "unknown", "c"), ("h", 2, "unknown", "b"), ("h", 5, "unknown", "d"),
        ])
        self.assertEqual(body("set p = p set h = h return u", parameters="p"), [
            ("h", 1, "unknown", "h"), ("h", 1, "unknown", "h"), ("h", 2, "unknown", "u"),
        ])
        self.assertEqual(body("try a = h(c) else c: c return a", parameters="b"), [("h", 0, "unknown", "c")])
        self.assertEqual(body("try a = h() else b: a + b show b return a"), [
            ("h", 0, "unknown", "a"), ("h", 1, "unknown", "b"),
        ])

    def test_parts_ahead_of_the_whole(self):
        self.assertEqual(body("let x = i(a, make y(b), c + j(d)) return 1"), [("h", 0, word, name) for word, name in (
            ("unknown", "a"), ("unknown", "b"), ("variant", "y"), ("unknown", "c"), ("unknown", "d"), ("function", "j"),
            ("function", "i"),
        )])
        self.assertEqual(body("put q(a, b) = c return at o(d, e) + long o(new n(f, g))"), [
            ("h", 0, "unknown", "a"), ("h", 0, "unknown", "b"), ("h", 0, "unknown", "c"), ("h", 0, "row", "q"),
            ("h", 1, "unknown", "d"), ("h", 1, "unknown", "e"), ("h", 1, "row", "o"), ("h", 1, "unknown", "f"),
            ("h", 1, "unknown", "g"), ("h", 1, "row", "n"), ("h", 1, "row", "o"),
        ])
        self.assertEqual(body("try a = i(b) else c: d return not e"), [
            ("h", 0, "unknown", "b"), ("h", 0, "function", "i"), ("h", 0, "unknown", "d"), ("h", 1, "unknown", "e"),
        ])

    def test_functions_and_variants(self):
        head = "unit u uses b choice m = n(number) | o"
        self.assertEqual(body(
            "show f(1, make v) show f(1) show g() show g(1) show h() show h(1) let x = make n let y = make n(1) "
            "let z = make v(1) let a = make w(1, make v) let b = make k let c = make f let d = n(1) return v()",
            {"b": FACE_B}, head
        ), [
            ("h", 1, "count", "f"), ("h", 3, "count", "g"), ("h", 5, "count", "h"), ("h", 6, "count", "n"),
            ("h", 8, "count", "v"), ("h", 10, "variant", "k"), ("h", 11, "variant", "f"), ("h", 12, "function", "n"),
            ("h", 13, "function", "v"),
        ])

    def test_kinds_of_rows(self):
        head = "unit u uses b row t of number choice m = n"
        self.assertEqual(body(
            "put t(1, 1) = 1 put r(1, 1) = 1 put m(1, 1) = 1 put k(1, 1) = 1 show long t(1) show at r(1, 1) "
            "show at n(1, 1) show new h(1, 1) return 1", {"b": FACE_B}, head
        ), [("h", 2, "row", "m"), ("h", 3, "row", "k"), ("h", 6, "row", "n"), ("h", 7, "row", "h")])

    def test_what_used_units_use_is_not_in_sight(self):
        self.assertEqual(body("let a = make v return f(1)", {"c": FACE_C}, "unit u uses c"), [
            ("h", 0, "variant", "v"), ("h", 1, "function", "f"),
        ])

    def test_let_again(self):
        self.assertEqual(body("let p = 1 let a = 1 let a = 2 set a = 3 return 1", parameters="p"), [
            ("h", 0, "again", "p"), ("h", 2, "again", "a"),
        ])
        self.assertEqual(body("if true { let a = 1 } else { let a = 1 } let a = 1 return a"), [
            ("h", 2, "again", "a"), ("h", 3, "again", "a"),
        ])
        self.assertEqual(body("try a = h() else a: a try b = h() else a: 1 let a = 1 return 1"), [
            ("h", 0, "again", "a"), ("h", 1, "again", "a"), ("h", 2, "again", "a"),
        ])
        self.assertEqual(body("let h = 1 let u = 1 let k = 1 return 1", head="unit u row k of number"), [])

    MATCHES = "unit u choice c = v | w(number, truth) choice d = x(c) | y"

    def test_a_match(self):
        head = self.MATCHES
        self.assertEqual(body("match make v { v { } w(a, b) { show a } } return 1", head=head), [])
        self.assertEqual(body("match p { w { } v(a) { show a } } return 1", head=head), [
            ("h", 0, "unknown", "p"), ("h", 0, "count", "w"), ("h", 0, "count", "v"),
        ])
        self.assertEqual(body("match make v { z(a, a) { } y { } v { } y(a) { show x } } return 1", head=head), [
            ("h", 0, "variant", "z"), ("h", 0, "again", "a"), ("h", 0, "other", "v"), ("h", 0, "twice", "y"),
            ("h", 0, "count", "y"), ("h", 0, "again", "a"), ("h", 0, "missing", "x"), ("h", 1, "unknown", "x"),
        ])
        self.assertEqual(body("match make v { y { } v(a) { } v { } x(b) { } } return 1", head=head), [
            ("h", 0, "other", "v"), ("h", 0, "count", "v"), ("h", 0, "other", "v"), ("h", 0, "twice", "v"),
        ])
        self.assertEqual(body("match make v { z { } z { } q { } } return 1", head=head), [
            ("h", 0, "variant", "z"), ("h", 0, "variant", "z"), ("h", 0, "variant", "q"),
        ])

    def test_names_of_branches(self):
        head = self.MATCHES
        # The second branch's name stands behind the first one's, whatever the first one's block lets.
        self.assertEqual(body("match make v { w(a, b) { let c = 1 let d = 1 } v { let d = 1 } } return 1", head=head), [
            ("h", 3, "again", "d"),
        ])
        self.assertEqual(body("match make y { x(a) { let b = a } y(b) { show b show a } } return 1", head=head), [
            ("h", 0, "count", "y"), ("h", 1, "again", "b"), ("h", 3, "unknown", "a"),
        ])
        self.assertEqual(body("let a = 1 match make y { y { } x(a) { show a } } return 1", head=head), [
            ("h", 1, "again", "a"),
        ])

    def test_kinds_and_variants_told_twice(self):
        # The first one counts: v is of c, and c has the variants v and w.
        head = "unit u choice c = v | w | w choice d = v(number) | x choice c = y"
        self.assertEqual(body("match make v { v { } } return 1", head=head)[-2:], [
            ("h", 0, "missing", "w"), ("h", 0, "missing", "w"),
        ])
        found = body("match make x { x { } v { } } return 1", head=head)
        self.assertEqual([fault for fault in found if fault[0]], [("h", 0, "other", "v")])
        found = body("match make y { y { } } return 1", head=head)
        self.assertEqual([fault for fault in found if fault[0]], [
            ("h", 0, "missing", "v"), ("h", 0, "missing", "w"), ("h", 0, "missing", "w"),
        ])
        found = body("match make z { z { } } put c(1, 1) = 1 return 1", head="unit u row c of number choice c = z | y")
        self.assertEqual([fault for fault in found if fault[0]], [])
        found = body("put k(1, 1) = 1 show make v return 1", {"b": FACE_B}, "unit u uses b row k of number row v of v")
        self.assertEqual([fault for fault in found if fault[0]], [("h", 0, "row", "k")])
        found = body("show f(1) return 1", {"b": FACE_B}, "unit u uses b function f(a) { return a }")
        self.assertEqual([fault for fault in found if fault[0]], [("h", 0, "count", "f")])


class WrongUnits(unittest.TestCase):
    def test_units(self):
        for thing in odd_values():
            if not is_unit(thing):
                self.assertRaises(BadUnit, faults, thing, {})
                self.assertRaises(BadUnit, faults, thing, None)

    def test_faces(self):
        unit = read_unit("unit u uses b, c")
        self.assertEqual(faults(unit, {"c": FACE_C, "b": FACE_B}), [])
        for thing in odd_values():
            self.assertRaises(BadFaces, faults, unit, thing)
            self.assertRaises(BadFaces, faults, unit, {"b": FACE_B, "c": thing})
        again = ("face", "c", (("row", "s", "truth"),), (("v", (), "number"),))
        for faces in (
            {"b": FACE_B}, {"b": FACE_B, "c": FACE_C, "d": ("face", "d", (), ())}, {"b": FACE_C, "c": FACE_B},
            {"b": FACE_B, "c": FACE_B}, {"b": FACE_B, "c": again}, {"b": FACE_B, "c": list(FACE_C)},
            [("b", FACE_B), ("c", FACE_C)], {"b": FACE_B, 1: FACE_C}, {"b": FACE_B, "c": FACE_C, True: FACE_C},
        ):
            self.assertRaises(BadFaces, faults, unit, faces)
        self.assertEqual(faults(read_unit("unit u"), {}), [])
        self.assertRaises(BadFaces, faults, read_unit("unit u"), {"b": FACE_B})
        self.assertRaises(BadFaces, faults, read_unit("unit u"), [])


def units_of(uses):
    return [("unit", name, tuple(used), (), ()) for name, used in uses.items()]


class Orders(unittest.TestCase):
    def test_orders(self):
        self.assertEqual(order_of(units_of({"c": "", "a": "", "b": ""})), ("a", "b", "c"))
        self.assertEqual(order_of(units_of({"a": "b", "b": "c", "c": ""})), ("c", "b", "a"))
        self.assertEqual(order_of(units_of({"a": "d", "b": "", "c": "", "d": "c"})), ("b", "c", "d", "a"))
        self.assertEqual(order_of(tuple(units_of({"z": "aa", "a": ""}))), ("a", "z"))
        self.assertEqual(order_of(units=units_of({"a": "c", "b": "a", "c": ""})), ("c", "a", "b"))

    def test_rings(self):
        for uses, ring in (
            ({"a": "a"}, "a"), ({"a": "b", "b": "a"}, "ab"), ({"b": "c", "c": "a", "a": "b"}, "abc"),
            ({"a": "b", "b": "c", "c": "ad", "d": "d"}, "d"), ({"a": "b", "b": "a", "c": "d", "d": "c"}, "ab"),
            ({"d": "c", "c": "d", "a": "b", "b": "e", "e": "a"}, "cd"),
            ({"a": "cb", "b": "a", "c": "a"}, "ab"), ({"a": "bc", "b": "d", "c": "d", "d": "a"}, "abd"),
            ({"a": "edcb", "b": "f", "c": "f", "d": "f", "e": "f", "f": "a"}, "abf"),
            ({"c": "edba", "e": "f", "d": "f", "b": "f", "a": "f", "f": "c"}, "afc"), ({"b": "ac", "a": "b", "c": "b"}, "ab"),
            ({"x": "", "y": "x", "z": "yz"}, "z"), ({"a": "b", "b": "c", "c": "b"}, "bc"),
        ):
            with self.assertRaises(UsesRing) as caught:
                order_of(units_of(uses))
            self.assertEqual(caught.exception.ring, tuple(ring), uses)

    def test_random_uses(self):
        rng = random.Random(15)
        for _ in range(300):
            names = "abcdef"[:rng.randint(1, 6)]
            likely = rng.choice([0.1, 0.2, 0.3])
            uses = {name: [other for other in names if rng.random() < likely] for name in names}
            uses = {name: uses[name][:5] for name in rng.sample(names, len(names))}
            rings = [
                way for many in range(1, len(names) + 1) for way in itertools.permutations(sorted(names), many)
                if way[0] == min(way) and all(b in uses[a] for a, b in zip(way, way[1:] + way[:1]))
            ]
            if rings:
                with self.assertRaises(UsesRing) as caught:
                    order_of(units_of(uses))
                self.assertEqual(caught.exception.ring, rings[0])
            else:
                orders = [
                    way for way in itertools.permutations(sorted(names))
                    if all(way.index(b) < way.index(a) for a in uses for b in uses[a])
                ]
                self.assertEqual(order_of(units_of(uses)), orders[0])
            for name in names:
                self.assertEqual(users_of(units_of(uses), name), self.users(uses, name))

    def users(self, uses, name):
        found = {name}
        for _ in uses:
            found |= {user for user in uses if found & set(uses[user])}
        return tuple(sorted(found - {name}))

    def test_users(self):
        units = units_of({"a": "b", "b": "c", "c": "", "d": "a"})
        self.assertEqual(users_of(units=units, name="c"), ("a", "b", "d"))
        self.assertEqual(users_of(units, "d"), ())
        self.assertEqual(users_of(units_of({"a": "b", "b": "a"}), "a"), ("b",))
        self.assertEqual(users_of(units_of({"a": "a"}), "a"), ())

    def test_wrong_values(self):
        units = units_of({"a": "", "b": "a"})
        for thing in odd_values():
            if not isinstance(thing, (list, tuple)) or len(thing) == 0:
                for call in (order_of, lambda things: users_of(things, "a")):
                    with self.assertRaises(BadUnits) as caught:
                        call(thing)
                    self.assertIsNone(caught.exception.at)
            if not is_unit(thing):
                with self.assertRaises(BadUnits) as caught:
                    order_of(units + [thing, units[0]])
                self.assertEqual(caught.exception.at, 2)
            with self.assertRaises(NoUnit) as caught:
                users_of(units, thing if thing != "a" else "z")
            self.assertIn(repr(caught.exception.name), (repr(thing), "'z'"))
        with self.assertRaises(BadUnits) as caught:
            order_of(units + [units[1]])
        self.assertEqual(caught.exception.at, 2)
        with self.assertRaises(NoUnit) as caught:
            order_of(units_of({"a": "a", "b": "ax", "c": "y"}))
        self.assertEqual(caught.exception.name, "x")
        with self.assertRaises(NoUnit) as caught:
            users_of(units_of({"a": "a", "b": "ax", "c": "y"}), "q")
        self.assertEqual(caught.exception.name, "x")
        with self.assertRaises(BadUnits):
            users_of([], 1)


if __name__ == "__main__":
    unittest.main()
