"""Points 35 and 36: faces."""

import random
import unittest

from odd_values import as_list, changed, odd_values
from random_programs import random_units
from stopanywhere.errors import BadFaces, BadUnit, BadUnits, Faulty, KindClash, NoUnit, UsesRing
from stopanywhere.faces import all_faces, face_of, is_face
from stopanywhere.kinds import kinds_of
from stopanywhere.texts import read_unit

A = "unit a choice c = v | w(number, c) row r of c function z(x) { return not x } function b(y) { return make w(y, make v) }"
FACE = ("face", "a", (("choice", "c", (("v", ()), ("w", ("number", "c")))), ("row", "r", "c")), (
    ("b", ("number",), "c"), ("z", ("truth",), "truth"),
))


class FaceOf(unittest.TestCase):
    def test_a_face(self):
        self.assertEqual(face_of(read_unit(A), {}), FACE)
        self.assertEqual(face_of(unit=read_unit("unit a"), faces={}), ("face", "a", (), ()))

    def test_kinds_of_others(self):
        unit = read_unit("unit u uses a row s of c function f(x) { return b(long r(x)) }")
        self.assertEqual(face_of(unit, {"a": FACE}), ("face", "u", (("row", "s", "c"),), (("f", ("r",), "c"),)))

    def test_blocks_are_not_told(self):
        other = A.replace("return not x", "let q = x show 1 return x and q")
        self.assertEqual(face_of(read_unit(other), {}), FACE)
        self.assertNotEqual(face_of(read_unit(A.replace("z", "q")), {}), FACE)

    def test_errors(self):
        self.assertRaises(BadUnit, face_of, None, None)
        self.assertRaises(BadFaces, face_of, read_unit("unit u uses a"), {})
        self.assertRaises(BadFaces, face_of, read_unit("unit u"), {"a": FACE})
        with self.assertRaises(Faulty) as caught:
            face_of(read_unit("unit u function f() { }"), {})
        self.assertEqual((caught.exception.fault, caught.exception.unit), (("f", None, "open", ""), "u"))
        with self.assertRaises(KindClash) as caught:
            face_of(read_unit("unit u function f() { show true return 1 }"), {})
        self.assertEqual(caught.exception.unit, "u")


class IsFace(unittest.TestCase):
    def test_right_ones(self):
        row = [("row", name, "number") for name in "abcdefghi"]
        functions = [(name, (), "elsewhere"[:8]) for name in "jklmnopqrs"]
        self.assertTrue(is_face(FACE))
        self.assertTrue(is_face(thing=("face", "f", tuple(row[:8]), tuple(functions[:8]))))
        self.assertFalse(is_face(("face", "f", tuple(row), ())))
        self.assertFalse(is_face(("face", "f", (), tuple(functions[:9]))))
        self.assertTrue(is_face(("face", "f", (("row", "b", "k"), ("row", "a", "k")), (("f", ("p", "q", "truth"), "k"),))))

    def test_wrong_ones(self):
        v = ("choice", "c", (("v", ()),))
        for thing in (
            ("face", "if", (), ()), ("faces", "a", (), ()), ("face", "a", ()), ("face", "a", (), (), ()),
            ("face", "a", (("row", "a", "of"),), ()), ("face", "a", (("row", "a", "k"), ("row", "a", "k")), ()),
            ("face", "a", (v, ("row", "v", "k")), ()), ("face", "a", (("choice", "c", (("c", ()),)),), ()),
            ("face", "a", (v,), (("v", (), "c"),)), ("face", "a", (v,), (("c", (), "c"),)),
            ("face", "a", (), (("f", (), "k"), ("f", (), "k"))), ("face", "a", (), (("g", (), "k"), ("f", (), "k"))),
            ("face", "a", (), (("f", ("k",) * 4, "k"),)), ("face", "a", (), (("f", (), "of"),)),
            ("face", "a", (), (("f", ("of",), "k"),)), ("face", "a", (), (("of", (), "k"),)),
            ("face", "a", (), (("f", ()),)), ("face", "a", (), (("f", (), "k", ()),)), ("face", "a", (), ("f",)),
            ("face", "a", (("choice", "c", (("v", ()), ("v", ()))),), ()), ("face", 1, (), ()), ("face", "a", None, ()),
            ("face", "a", (), None),
        ):
            self.assertFalse(is_face(thing), thing)
        for thing in changed(FACE, as_list):
            self.assertFalse(is_face(thing), thing)

    def test_any_value(self):
        for thing in odd_values():
            self.assertEqual(is_face(thing), repr(thing) == "('face', 'a', (), ())", thing)
            self.assertFalse(is_face(("face", "b", (thing,), ())))
            self.assertFalse(is_face(("face", "b", (), (thing,))))


class AllFaces(unittest.TestCase):
    def test_programs(self):
        rng = random.Random(18)
        for _ in range(20):
            units = random_units(rng)
            rng.shuffle(units)
            try:
                found = all_faces(units)
            except KindClash as wrong:
                self.assertIn(wrong.unit, [unit[1] for unit in units])
                continue
            self.assertEqual(list(found), sorted(unit[1] for unit in units))
            for unit in units:
                used = {name: found[name] for name in unit[2]}
                self.assertEqual(found[unit[1]], face_of(unit, used))
                self.assertTrue(is_face(found[unit[1]]))
                told = kinds_of(unit, used)
                self.assertEqual(found[unit[1]][3], tuple((name, told[name][0], told[name][1]) for name in told))

    def test_errors_of_orders(self):
        for units in ([], None, {}, "a", 1):
            with self.assertRaises(BadUnits) as caught:
                all_faces(units)
            self.assertIsNone(caught.exception.at)
        with self.assertRaises(BadUnits) as caught:
            all_faces([read_unit("unit a uses z"), None])
        self.assertEqual(caught.exception.at, 1)
        with self.assertRaises(NoUnit) as caught:
            all_faces([read_unit("unit a uses z function f() { }")])
        self.assertEqual(caught.exception.name, "z")
        with self.assertRaises(UsesRing) as caught:
            all_faces(units=(read_unit("unit a uses b function f() { }"), read_unit("unit b uses a")))
        self.assertEqual(caught.exception.ring, ("a", "b"))

    def test_errors_unit_by_unit(self):
        faulty = "function f() { }"
        clashing = "function g() { show true return 1 }"
        with self.assertRaises(Faulty) as caught:
            all_faces([read_unit("unit b " + clashing), read_unit("unit a uses c"), read_unit("unit c " + faulty),
                       read_unit("unit d uses a " + clashing)][1:])
        self.assertEqual((caught.exception.fault, caught.exception.unit), (("f", None, "open", ""), "c"))
        with self.assertRaises(KindClash) as caught:
            all_faces([read_unit("unit b " + clashing), read_unit("unit a uses c"), read_unit("unit c " + faulty)][::2])
        self.assertEqual(caught.exception.unit, "b")
        one, other = read_unit("unit a row k of number"), read_unit("unit b choice c = k")
        with self.assertRaises(BadFaces):
            all_faces([one, other, read_unit("unit c uses a, b " + faulty)])
        self.assertEqual(list(all_faces([one, other])), ["a", "b"])


if __name__ == "__main__":
    unittest.main()
