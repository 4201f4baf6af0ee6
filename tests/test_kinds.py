"""Points 30 to 34: ties, wants, clashes and kinds."""

import random
import unittest

from odd_values import as_bool, as_list, changed, odd_values
from random_programs import random_units
from stopanywhere.errors import (
    BadFaces, BadPath, BadPoint, BadUnit, Faulty, KindClash, NoFunction,
)
from stopanywhere.kinds import as_told, clash, is_clash, is_sound, kind_at, kinds_of, ties, wants
from stopanywhere.plain import Program
from stopanywhere.texts import read_unit
from stopanywhere.trees import is_unit

FACE = ("face", "b", (("choice", "k", (("v", ()), ("w", ("number", "k")))), ("row", "r", "k")), (
    ("e", ("number", "k"), "truth"), ("g", (), "r"),
))
EXAMPLE = "unit u function f(a) { let x = a show x if a { } return 1 }"
WAY = (
    ("place", "f", 1, (1,)), ("variable", "f", "x"), ("place", "f", 0, (2,)), ("parameter", "f", 0),
    ("place", "f", 2, (1,)),
)


def place(point, *path):
    return "place", "f", point, path


class TiesAndWants(unittest.TestCase):
    def asked(self, text, tied, wanted, faces=None):
        unit = read_unit(text)
        self.assertEqual(ties(unit, faces or {}), tied)
        self.assertEqual(wants(unit, faces or {}), wanted)

    def test_names_and_signs(self):
        x = ("variable", "f", "x")
        self.asked(
            "unit u function f(p) { let x = p + 1 set x = not (true or x < p) return x }",
            [(place(0, 2, 1), ("parameter", "f", 0)), (x, place(0, 2)), (place(1, 2, 1, 2, 1), x),
             (place(1, 2, 1, 2, 2), ("parameter", "f", 0)), (x, place(1, 2)), (place(2, 1), x),
             (place(2, 1), ("result", "f"))],
            [(place(0, 2, 2), "number"), (place(0, 2, 1), "number"), (place(0, 2, 2), "number"),
             (place(0, 2), "number"), (place(1, 2, 1, 1), "truth"), (place(1, 2, 1, 2, 1), "number"),
             (place(1, 2, 1, 2, 2), "number"), (place(1, 2, 1, 2), "truth"), (place(1, 2, 1, 1), "truth"),
             (place(1, 2, 1, 2), "truth"), (place(1, 2, 1), "truth"), (place(1, 2, 1), "truth"), (place(1, 2), "truth")],
        )

    def test_all_signs(self):
        for sign, word, kinds in (
            ("+", "plus", "nnn"), ("-", "minus", "nnn"), ("*", "times", "nnn"), ("over", "over", "nnn"),
            ("rest", "rest", "nnn"), ("<", "less", "nnt"), ("<=", "atmost", "nnt"), ("==", "same", "nnt"),
            ("and", "and", "ttt"), ("or", "or", "ttt"),
        ):
            told = {"n": "number", "t": "truth"}
            p = ("parameter", "f", 0)
            self.asked(
                f"unit u function f(p) {{ return p {sign} p }}",
                [(place(0, 1, 1), p), (place(0, 1, 2), p), (place(0, 1), ("result", "f"))],
                [(place(0, 1, 1), told[kinds[0]]), (place(0, 1, 2), told[kinds[1]]), (place(0, 1), told[kinds[2]])],
            )

    def test_calls(self):
        unit = "unit u uses b function f(p, q) { return f(h(), p) } function h() { return e(1, make v) }"
        self.asked(
            unit,
            [(place(0, 1, 2, 0), ("result", "h")), (place(0, 1, 2, 1), ("parameter", "f", 0)),
             (place(0, 1, 2, 0), ("parameter", "f", 0)), (place(0, 1, 2, 1), ("parameter", "f", 1)),
             (place(0, 1), ("result", "f")), (place(0, 1), ("result", "f")),
             (("place", "h", 0, (1,)), ("result", "h"))],
            [(("place", "h", 0, (1, 2, 0)), "number"), (("place", "h", 0, (1, 2, 1)), "k"),
             (("place", "h", 0, (1, 2, 0)), "number"), (("place", "h", 0, (1, 2, 1)), "k"),
             (("place", "h", 0, (1,)), "truth")],
            {"b": FACE},
        )

    def test_boxes(self):
        p = ("parameter", "f", 0)
        self.asked(
            "unit u uses b row s of truth function f(p) { put s(p, 1) = at s(new s(2, true), long r(g())) "
            "return make w(3, at r(p, 4)) }",
            [(place(0, 2), p), (place(1, 1, 2, 1, 2), p), (place(1, 1), ("result", "f"))],
            [(place(0, 3), "number"), (place(0, 4, 2, 2), "number"), (place(0, 4, 2, 3), "truth"),
             (place(0, 4, 2, 2), "number"), (place(0, 4, 2, 3), "truth"), (place(0, 4, 2), "s"),
             (place(0, 4, 3, 2), "r"), (place(0, 4, 3, 2), "r"), (place(0, 4, 3), "number"), (place(0, 4, 2), "s"),
             (place(0, 4, 3), "number"), (place(0, 4), "truth"), (place(0, 2), "s"), (place(0, 3), "number"),
             (place(0, 4), "truth"), (place(1, 1, 2, 0), "number"), (place(1, 1, 2, 1, 3), "number"),
             (place(1, 1, 2, 1, 2), "r"), (place(1, 1, 2, 1, 3), "number"), (place(1, 1, 2, 1), "k"),
             (place(1, 1, 2, 0), "number"), (place(1, 1, 2, 1), "k"), (place(1, 1), "k")],
            {"b": FACE},
        )

    def test_statements(self):
        self.asked(
            "unit u uses b function f() { show 1 while true { } match make v { w(x, y) { } v { } } "
            "try z = f() else n: f() fail 2 }",
            [(place(3, 2), ("result", "f")), (place(3, 4), ("result", "f")), (("variable", "f", "z"), place(3, 2)),
             (place(3, 4), ("variable", "f", "z"))],
            [(place(0, 1), "number"), (place(0, 1), "number"), (place(1, 1), "truth"), (place(1, 1), "truth"),
             (place(2, 1), "k"), (place(2, 1), "k"), (("variable", "f", "x"), "number"), (("variable", "f", "y"), "k"),
             (("variable", "f", "n"), "number"), (place(4, 1), "number"), (place(4, 1), "number")],
            {"b": FACE},
        )


def graph_of(unit, faces):
    near, wanted = {}, {}
    for one, other in ties(unit, faces):
        near.setdefault(one, set()).add(other)
        near.setdefault(other, set()).add(one)
    for slot, kind in wants(unit, faces):
        wanted.setdefault(slot, set()).add(kind)
        near.setdefault(slot, set())
    return near, wanted


def shortest(unit, faces):
    """The length of the shortest way between two slots that are wanted as unlike kinds, None without one."""
    near, wanted = graph_of(unit, faces)
    best = None
    for first in wanted:
        steps = {first: 1}
        coming = [first]
        for slot in coming:
            for other in near[slot]:
                if other not in steps:
                    steps[other] = steps[slot] + 1
                    coming.append(other)
        for other in steps:
            if other in wanted and len(wanted[first] | wanted[other]) > 1:
                best = steps[other] if best is None else min(best, steps[other])
    return best


class Clashes(unittest.TestCase):
    def test_the_example(self):
        unit = read_unit(EXAMPLE)
        told = ("number", "truth", WAY)
        self.assertEqual(clash(unit, {}), told)
        self.assertTrue(is_clash(unit=unit, faces={}, thing=told))
        self.assertFalse(is_sound(unit, {}))
        with self.assertRaises(KindClash) as caught:
            kinds_of(unit, {})
        self.assertEqual((caught.exception.clash, caught.exception.unit), (told, "u"))

    def test_one_thing_otherwise(self):
        unit = read_unit(EXAMPLE)
        for thing in (
            ("truth", "number", WAY), ("truth", "number", WAY[::-1]), ("number", "truth", WAY[::-1]),
            ("number", "truth", WAY[:4]), ("number", "truth", WAY[1:]), ("number", "truth", ()),
            ("number", "number", WAY), ("number", "k", WAY), ("number", "truth", list(WAY)),
            ["number", "truth", WAY], ("number", "truth", WAY, ()), ("number", "truth"),
            ("number", "truth", WAY[:2] + WAY[1:]), ("number", "truth", WAY[:2] + WAY[3:]), ("number", "truth", None),
            ("number", "truth", WAY[:4] + (("place", "f", 3, (1,)),)),
            ("number", "truth", WAY[:1] + WAY[:1] + WAY[1:]),
        ):
            self.assertFalse(is_clash(unit, {}, thing), thing)
        for turn in (as_list, as_bool):
            for thing in changed(("number", "truth", WAY), turn):
                self.assertFalse(is_clash(unit, {}, thing), thing)

    def test_any_value(self):
        clashing, sound = read_unit(EXAMPLE), read_unit("unit u function f(a) { return a }")
        for thing in odd_values():
            for unit in (clashing, sound):
                self.assertFalse(is_clash(unit, {}, thing))
                self.assertFalse(is_clash(unit, {}, ("number", "truth", thing)))
                self.assertFalse(is_clash(unit, {}, ("number", "truth", WAY[:4] + (thing,))))
                self.assertFalse(is_clash(unit, {}, (thing, "truth", WAY)) and thing != "number")
                self.assertFalse(is_clash(unit, {}, ("number", thing, WAY)) and thing != "truth")
        self.assertFalse(is_clash(sound, {}, ("number", "truth", WAY)))

    def test_any_value_in_a_slot(self):
        unit = read_unit(EXAMPLE)
        for thing in odd_values():
            for slot in (
                ("variable", "f", thing), ("variable", thing, "x"), (thing, "f", "x"), ("variable", "f", "x", thing),
                ("parameter", "f", thing, 0), ("parameter", "f", 0, thing), ("parameter", thing, 0), ("result", thing),
                ("place", thing, 0, (2,)), ("place", "f", thing, (2,)), ("place", "f", 0, thing), ("place", "f", 0),
                ("place", "f", 0, (2,), thing), ("place", "f", 0, (2, thing)), ("place", "f", 0, (thing,)), (thing,),
                (thing, thing), (thing, thing, thing), (thing, thing, thing, thing),
            ):
                for at in range(5):
                    way = WAY[:at] + (slot,) + WAY[at + 1:]
                    is_same = repr(way) == repr(WAY)
                    self.assertIs(is_clash(unit, {}, ("number", "truth", way)), is_same, slot)

    def test_kinds_that_are_not_wanted_there(self):
        unit = read_unit(EXAMPLE)
        for other in ("zebra", "truths", "variable", "x"):
            self.assertFalse(is_clash(unit, {}, ("number", other, WAY)))
        for kind in ("a", "f", "Truth", "", "numbe"):
            self.assertFalse(is_clash(unit, {}, (kind, "truth", WAY)))
        # A way as long as the clashes', between two that are wanted as one kind.
        unit = read_unit("unit u function f(a, b) { show a if a { } show b show b return 1 }")
        way = (place(2, 1), ("parameter", "f", 1), place(3, 1))
        self.assertEqual(len(clash(unit, {})[2]), len(way))
        for told in (("number", "number", way), ("number", "truth", way), ("number", "zebra", way)):
            self.assertFalse(is_clash(unit, {}, told))

    def test_several_of_one_length(self):
        unit = read_unit("unit u row r of truth function f(a, b) { show a if a { } show b if b { } return new r(1, 1) }")
        found = clash(unit, {})
        self.assertEqual(found, ("number", "truth", (("place", "f", 4, (1, 3)),)))
        self.assertTrue(is_clash(unit, {}, found))
        unit = read_unit("unit u function f(a, b) { show a if a { } show b if b { } return 1 }")
        ways = [
            ("number", "truth", (place(0, 1), ("parameter", "f", 0), place(1, 1))),
            ("number", "truth", (place(2, 1), ("parameter", "f", 1), place(3, 1))),
        ]
        self.assertIn(clash(unit, {}), ways)
        for way in ways:
            self.assertTrue(is_clash(unit, {}, way))
        self.assertFalse(is_clash(unit, {}, ("number", "truth", (place(0, 1), ("parameter", "f", 0), place(3, 1)))))

    def test_other_kinds(self):
        unit = read_unit("unit u choice c = v row r of c function f() { return at r(make v, make v) }")
        found = clash(unit, {})
        self.assertIn(found, [
            ("c", "r", (place(0, 1, 2),)), ("c", "number", (place(0, 1, 3),)),
        ])
        for told in (("c", "r", (place(0, 1, 2),)), ("c", "number", (place(0, 1, 3),))):
            self.assertTrue(is_clash(unit, {}, told))
        self.assertFalse(is_clash(unit, {}, ("r", "c", (place(0, 1, 2),))))

    def test_the_shortest_of_all_kinds(self):
        short = "function g(b) { show b match b { v { } } return 1 } "
        long = "function f(a) { let x = a let y = x if y { } show a return 1 } "
        for head in ("unit u choice c = v ", "unit u choice z = v "):
            for text in (short + long, long + short):
                unit = read_unit(head + text)
                found = clash(unit, {})
                self.assertEqual(len(found[2]), 3)
                self.assertEqual(set(found[:2]), {"number", head[14]})
                self.assertTrue(is_clash(unit, {}, found))
        unit = read_unit(
            "unit u choice c = v function f(a) { let x = a match x { v { } } show a return 1 } "
            "function g(b) { show b if b { } return 1 }"
        )
        self.assertEqual(clash(unit, {})[:2], ("number", "truth"))

    def test_through_calls_of_own_functions_and_of_others(self):
        text = "unit u function f(a) { return g(a) } function g(b) { return not b } function h() { return 1 + f(2) }"
        unit = read_unit(text)
        found = clash(unit, {})
        self.assertEqual(len(found[2]), shortest(unit, {}))
        self.assertTrue(is_clash(unit, {}, found))
        unit = read_unit("unit u function f() { if g() { } return g() } function g() { return h() } function h() { return 1 }")
        found = clash(unit, {})
        self.assertEqual(found, ("number", "truth", (
            ("place", "h", 0, (1,)), ("result", "h"), ("place", "g", 0, (1,)), ("result", "g"), place(0, 1),
        )))
        self.assertTrue(is_clash(unit, {}, found))
        other = read_unit("unit u uses b function f() { show e(1, make v) return 1 }")
        self.assertEqual(clash(other, {"b": FACE}), ("number", "truth", (place(0, 1),)))

    def test_random_units(self):
        rng = random.Random(16)
        seen = {True: 0, False: 0}
        for _ in range(120):
            unit = self.disturbed(rng, random_units(rng, 1)[0])
            found = clash(unit, {})
            length = shortest(unit, {})
            self.assertEqual(found is None, length is None)
            self.assertEqual(is_sound(unit, {}), found is None)
            seen[found is None] += 1
            if found:
                self.assertEqual(len(found[2]), length)
                self.assertTrue(is_clash(unit, {}, found))
                self.assertLess(found[0], found[1])
            else:
                self.agree(rng, unit)
        self.assertGreater(min(seen.values()), 20)

    def disturbed(self, rng, unit):
        """The unit with one number or one truth in the place of the other, at times."""
        def turn(thing):
            if thing in (("number", 1), ("number", 2)):
                return [("truth", True)]
            return [("number", 9)] if thing in (("truth", True), ("truth", False)) and thing[0] == "truth" else []

        found = list(changed(unit, turn))
        return rng.choice(found) if found and rng.random() < 0.6 else unit

    def agree(self, rng, unit):
        """The kinds of a sound unit are those of its classes."""
        near, wanted = graph_of(unit, {})
        told = kinds_of(unit, {})
        for function in unit[4]:
            taken, result, variables = told[function[1]]
            slots = {("result", function[1]): result}
            slots.update({("parameter", function[1], at): kind for at, kind in enumerate(taken)})
            slots.update({("variable", function[1], name): kind for name, kind in variables.items()})
            for slot, kind in slots.items():
                met, coming = {slot}, [slot]
                for one in coming:
                    fresh = near.get(one, set()) - met
                    met |= fresh
                    coming.extend(fresh)
                kinds = {other for one in met for other in wanted.get(one, ())}
                self.assertEqual({kind}, kinds or {"number"})
                for one in sorted(met):
                    if one[0] == "place" and rng.random() < 0.05:
                        self.assertEqual(kind_at(unit, {}, *one[1:]), kind)
        self.assertTrue(as_told(unit, {}, told))


class Kinds(unittest.TestCase):
    TEXT = (
        "unit u uses b row s of truth function f(p, q, o) { let x = p < 1 match make w(1, q) { w(n, m) { } v { } } "
        "try y = f(1, q, o) else t: at s(new s(t, x), 0) return y } function a() { return g() } function i(j) { return j }"
    )

    def test_kinds(self):
        found = kinds_of(unit=read_unit(self.TEXT), faces={"b": FACE})
        self.assertEqual(found, {
            "a": ((), "r", {}),
            "f": (("number", "k", "number"), "truth", {
                "m": "k", "n": "number", "t": "number", "x": "truth", "y": "truth",
            }),
            "i": (("number",), "number", {}),
        })
        self.assertEqual(list(found), ["a", "f", "i"])
        self.assertEqual(list(found["f"][2]), ["m", "n", "t", "x", "y"])
        self.assertEqual(kinds_of(read_unit("unit u"), {}), {})

    def test_places(self):
        unit = read_unit(self.TEXT)
        for point, path, kind in (
            (0, (2,), "truth"), (0, (2, 1), "number"), (1, (1,), "k"), (1, (1, 2, 1), "k"), (2, (2,), "truth"),
            (2, (2, 2, 1), "k"), (2, (2, 2, 2), "number"), (2, (4,), "truth"), (2, (4, 2), "s"), (2, (4, 2, 3), "truth"),
            (2, (4, 3), "number"), (3, (1,), "truth"),
        ):
            self.assertEqual(kind_at(unit, {"b": FACE}, "f", point, path), kind, (point, path))
        self.assertEqual(kind_at(unit=unit, faces={"b": FACE}, function="a", point=0, path=(1,)), "r")

    def test_dicts_are_new(self):
        unit = read_unit(self.TEXT)
        found = kinds_of(unit, {"b": FACE})
        found["f"][2].clear()
        found.clear()
        self.assertEqual(kinds_of(unit, {"b": FACE})["f"][2]["m"], "k")

    def test_wrong_places(self):
        unit = read_unit(self.TEXT)
        faces = {"b": FACE}
        for thing in odd_values() + ["e", "g", "u", "b", "p"]:
            if thing != "a":
                with self.assertRaises(NoFunction) as caught:
                    kind_at(unit, faces, thing, None, None)
                self.assertEqual(repr(caught.exception.name), repr(thing))
            if repr(thing) not in ("0", "1", "2"):
                self.assertRaises(BadPoint, kind_at, unit, faces, "f", thing, None)
            self.assertRaises(BadPath, kind_at, unit, faces, "f", 0, thing)
        self.assertRaises(BadPoint, kind_at, unit, faces, "f", 4, (1,))
        for path in ((), (1,), (2, 0), (2, 3), (2, 1, 1), [2], (2, True), (True,), (2, [1]), (2, 2, 1), (-3,), (2, -1)):
            self.assertRaises(BadPath, kind_at, unit, faces, "f", 0, path)
        for path in ((2, 2), (2, 2, 3), (2, 2, -1), (2, 1), (3,), (2, 2, False), (4, 1), (4, 2, 2, 2)):
            self.assertRaises(BadPath, kind_at, unit, faces, "f", 2, path)


class AsTold(unittest.TestCase):
    UNIT = read_unit(
        "unit u uses b row s of truth function f(p) { return 1 } function h(q) { let x = q let y = x return h(q) } "
        "function i() { let z = true return z }"
    )
    FACES = {"b": FACE}

    def table(self, p="number", q="number", x="number", y="number", result="number", z="truth"):
        return {
            "f": ((p,), "number", {}), "h": ((q,), result, {"x": x, "y": y}), "i": ((), "truth", {"z": z}),
        }

    def told(self, table):
        return as_told(self.UNIT, self.FACES, table)

    def test_tables(self):
        self.assertTrue(self.told(kinds_of(self.UNIT, self.FACES)))
        self.assertTrue(self.told(self.table()))
        for kind in ("truth", "k", "r", "s"):
            self.assertTrue(self.told(self.table(p=kind)))
            self.assertTrue(self.told(self.table(q=kind, x=kind, y=kind)))
            self.assertTrue(self.told(self.table(result=kind)))
            self.assertFalse(self.told(self.table(q=kind, x=kind)))
            self.assertFalse(self.told(self.table(y=kind)))
        for table in (
            self.table(p="v"), self.table(p="c"), self.table(p="u"), self.table(p=None), self.table(p=("number",)), self.table(p=["number"]),
            self.table(result={}), self.table(z=[]),
            self.table(z="number"), self.table(z="k"),
        ):
            self.assertFalse(self.told(table), table)

    def test_forms(self):
        right = self.table()
        other = {name: right[name] for name in reversed(list(right))}
        self.assertTrue(as_told(unit=self.UNIT, faces=self.FACES, kinds=other))
        for name in right:
            self.assertFalse(self.told({key: right[key] for key in right if key != name}))
            self.assertFalse(self.told({**right, name: list(right[name])}))
            self.assertFalse(self.told({**right, name: right[name][:2]}))
            self.assertFalse(self.told({**right, name: (list(right[name][0]),) + right[name][1:]}))
            self.assertFalse(self.told({**right, name: right[name][:2] + ({**right[name][2], "w": "number"},)}))
            self.assertFalse(self.told({**right, name: (right[name][0] + ("number",),) + right[name][1:]}))
            self.assertFalse(self.told({**right, name: right[name][:2] + (None,)}))
        self.assertFalse(self.told({**right, "e": ((), "number", {})}))
        self.assertFalse(self.told({**right, 1: ((), "number", {})}))
        self.assertFalse(self.told({**right, "h": (("number",), "number", {"x": "number"})}))
        self.assertFalse(self.told({**right, "h": (("number",), "number", {"x": "number", "z": "number"})}))
        self.assertFalse(self.told({**right, "h": (("number",), "number", [("x", "number"), ("y", "number")])}))
        self.assertFalse(self.told({"f": right["f"], "h": right["h"], True: right["i"]}))

    def test_any_value(self):
        for thing in odd_values():
            self.assertFalse(self.told(thing))
            self.assertFalse(self.told({**self.table(), "f": thing}))
            self.assertEqual(as_told(read_unit("unit u"), {}, thing), isinstance(thing, dict) and not thing)

    def test_a_unit_that_clashes_has_no_table(self):
        unit = read_unit("unit u function f(a) { show a if a { } return 1 }")
        for kind in ("number", "truth"):
            self.assertFalse(as_told(unit, {}, {"f": ((kind,), "number", {})}))


class WrongUnits(unittest.TestCase):
    CALLS = (
        ties, wants, clash, lambda unit, faces: is_clash(unit, faces, None), kinds_of,
        lambda unit, faces: kind_at(unit, faces, 1, 1, 1), lambda unit, faces: as_told(unit, faces, None),
    )

    def test_errors_and_their_order(self):
        unit = read_unit("unit u uses b function f(a) { if a { } show a return x }")
        for call in self.CALLS + (is_sound,):
            for thing in odd_values():
                if not is_unit(thing):
                    self.assertRaises(BadUnit, call, thing, None)
                self.assertRaises(BadFaces, call, unit, thing)
        for call in self.CALLS:
            with self.assertRaises(Faulty) as caught:
                call(unit, {"b": FACE})
            self.assertEqual((caught.exception.fault, caught.exception.unit), (("f", 2, "unknown", "x"), "u"))
        # The first fault is told.
        several = read_unit("unit u uses b function f(a, a) { let x = y return z } function g() { }")
        for call in self.CALLS:
            with self.assertRaises(Faulty) as caught:
                call(several, {"b": FACE})
            self.assertEqual(caught.exception.fault, (None, None, "again", "g"))
        self.assertFalse(is_sound(unit=unit, faces={"b": FACE}))
        self.assertTrue(is_sound(read_unit("unit u uses b"), {"b": FACE}))
        clashing = read_unit(EXAMPLE)
        with self.assertRaises(KindClash):
            kind_at(clashing, {}, "f", 0, (2,))

    def test_random_programs_are_told_by_faces(self):
        rng = random.Random(17)
        for _ in range(15):
            units = random_units(rng)
            try:
                program = Program(units)
            except KindClash as wrong:
                clashing = [unit for unit in units if unit[1] == wrong.unit]
                self.assertEqual(len(clashing), 1)
                continue
            for unit in units:
                faces = {name: program.faces[name] for name in unit[2]}
                self.assertTrue(is_sound(unit, faces))
                self.assertTrue(as_told(unit, faces, kinds_of(unit, faces)))


if __name__ == "__main__":
    unittest.main()
