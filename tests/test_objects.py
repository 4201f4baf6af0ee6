"""Points 120 to 124: objects, bundles, and units compiled again."""

import copy
import random
import unittest

from code_tools import sound_programs, starts_of
from odd_values import as_bool, as_list, as_number, bent, changed, has_odd_bools, odd_values
from stopanywhere.again import build, stale
from stopanywhere.errors import (
    BadBundle, BadFaces, BadObject, BadObjects, BadOrder, BadRegisters, BadUnit, BadUnits, Faulty, KindClash, Missing, NoFunction, NoUnit, OtherFace,
    OtherRegisters, TwoNames, TwoUnits, UsesRing,
)
from stopanywhere.faces import all_faces, face_of
from stopanywhere.forms import is_placed
from stopanywhere.images import image, read_image
from stopanywhere.lowering import named_codes, scope_of
from stopanywhere.objects import calls_of, is_bundle, is_object, kept, linked, object_of
from stopanywhere.plain import Program, told_run
from stopanywhere.runner import Codes
from stopanywhere.sessions import led
from stopanywhere.texts import read_unit
from stopanywhere.trees import is_unit

A = read_unit("unit a choice c = v | w(number, c) row r of c function f(n) { let x = make w(n, make v) show g(n) match x { v { return 0 } w(m, y) { return m } } } "
              "function g(n) { return n * 2 }")
B = read_unit("unit b uses a function h(n) { try y = f(n over n) else z: z return y } function k(n) { while 0 < n { show n set n = n - 1 } return make w(n, make v) }")
D = read_unit("unit d uses b, a function p(n) { return h(n) + h(n + 1) } function q(t) { if t { return 1 } return new r(2, k(3)) }".replace(
    "if t { return 1 } ", ""))
UNITS = [A, B, D]
FACES = all_faces(UNITS)
OBJECTS = build(UNITS, {}, 6)[0]
BUNDLE = linked([OBJECTS["b"], OBJECTS["d"], OBJECTS["a"]], ["d", "a", "b"])


def faces_for(unit, faces=FACES):
    return {name: faces[name] for name in unit[2]}


def with_item(thing, at, part):
    return (*thing[:at], part, *thing[at + 1:])


class Objects(unittest.TestCase):
    def test_by_hand(self):
        for unit in UNITS:
            for registers in (6, 9):
                told = object_of(unit, faces_for(unit), registers)
                self.assertEqual(told[:3], ("object", unit, registers))
                self.assertEqual(told[3], tuple((name, FACES[name]) for name in sorted(unit[2])))
                self.assertEqual(told[4], face_of(unit, faces_for(unit)))
                named = named_codes(unit, faces_for(unit))
                self.assertEqual([pair[0] for pair in told[5]], [named[function[1]] for function in unit[4]])
                scope = scope_of(unit, faces_for(unit))
                for (_, placed), function in zip(told[5], unit[4]):
                    self.assertTrue(is_placed(placed, scope, registers))
                    self.assertEqual(placed[0], function[1])
                self.assertEqual(object_of(unit, faces_for(unit), registers), told)
                self.assertIs(is_object(told), True)

    def test_random(self):
        rng = random.Random(1)
        for program in sound_programs(rng, 3):
            faces = all_faces(program.units)
            for unit in program.units:
                told = object_of(unit, faces_for(unit, faces), rng.randint(6, 9))
                self.assertTrue(is_object(told))
                self.assertEqual(copy.deepcopy(told), object_of(unit, faces_for(unit, faces), told[2]))

    def test_bent_objects(self):
        told = OBJECTS["b"]
        for turn in (as_list, as_bool, as_number):
            others = list(changed(told, turn))
            for other in others[:: max(1, len(others) // 40)]:
                self.assertIs(is_object(other), False)
        for at, parts in (
            (0, ["bundle", None]), (1, [A, 0]), (2, [5, 10, True]), (3, [(), (("a", FACES["b"]),), [("a", FACES["a"])], (("a", FACES["a"]), ("d", FACES["d"]))]),
            (4, [FACES["a"], with_item(FACES["b"], 3, ()), with_item(FACES["b"], 1, "e")]),
            (5, [(), told[5][:1], told[5][::-1], ((told[5][0][1], told[5][0][1]), told[5][1]), list(told[5]), (*told[5], told[5][0])]),
        ):
            for part in parts:
                self.assertIs(is_object(with_item(told, at, part)), False, (at, part))
        # Placed code that is right but is not what is made.
        named, placed = told[5][0]
        blocks = {number: placed[2][number] for number in placed[2]}
        parameters, rows, end = blocks[0]
        blocks[0] = (parameters, (*rows, ("r0", "const", 4), *rows[-1:][:0]), end)
        other = with_item(told, 5, ((named, (*placed[:2], {**blocks, 0: (parameters, (rows[0], ("r5", "const", 4), *rows[1:]), end)})), told[5][1]))
        self.assertIs(is_object(other), False)
        # By its form it is an object.
        linked([other, OBJECTS["a"]], ["a", "b"])
        for thing in odd_values():
            self.assertIs(is_object(thing), False)
        faulty = with_item(told, 1, with_item(B, 4, (with_item(B[4][0], 3, (("return", ("name", "zz")),)), B[4][1])))
        self.assertIs(is_object(faulty), False)

    def test_by_the_form_alone(self):
        told = OBJECTS["b"]
        (first, first_placed), (second, second_placed) = told[5]
        parameters, rows, end = first_placed[2][0]

        def with_register(place):
            blocks = {**first_placed[2], 0: (parameters, (rows[0], (place, "const", 1), *rows[1:]), end)}
            return (first, (*first_placed[:2], blocks)), told[5][1]

        extra = ("face", "z", (), ())
        for at, part, wanted in (
            (0, "objects", False), (1, A, False), (1, D, False), (2, 5, False), (2, 10, False), (2, True, False), (2, 9, True), (3, (), False),
            (3, (("a", FACES["b"]),), False), (3, (("z", FACES["a"]),), False), (3, (("a", FACES["a"]), ("z", extra)), False), (3, [("a", FACES["a"])], False),
            (3, (["a", FACES["a"]],), False), (3, (("a", FACES["a"]), ("a", FACES["a"])), False), (3, (("a", with_item(FACES["a"], 2, ())),), False),
            (4, FACES["a"], False), (4, with_item(FACES["b"], 2, A[3]), False), (4, with_item(FACES["b"], 3, ()), False), (4, list(FACES["b"]), False),
            (4, with_item(FACES["b"], 3, FACES["b"][3][::-1]), False),
            (5, (), False), (5, told[5][:1], False), (5, told[5][::-1], False), (5, list(told[5]), False), (5, (*told[5], told[5][0]), False),
            (5, ((first, first_placed), [second, second_placed]), False), (5, ((first_placed, first_placed), told[5][1]), False),
            (5, ((first, first), told[5][1]), False), (5, ((first, second_placed), told[5][1]), False), (5, ((second, first_placed), told[5][1]), False),
            (5, with_register("r6"), False), (5, with_register("r5"), True), (5, ((first,), told[5][1]), False), (5, ((first, None), told[5][1]), False), (5, ((7, first_placed), told[5][1]), False),
        ):
            other = with_item(told, at, part)
            self.assertIs(is_object(other) and not wanted, False, (at, part))
            if wanted:
                self.assertRaises(BadOrder, linked, [other], 0)
                continue
            with self.assertRaises(BadObject) as caught:
                linked([OBJECTS["a"], other], ["a", "b"])
            self.assertEqual(caught.exception.at, 1, (at, part))
            with self.assertRaises(BadObjects) as caught:
                stale(UNITS, {"b": other}, 6)
            self.assertEqual(caught.exception.name, "b")

    def test_bent_at_any_place(self):
        rng = random.Random(9)
        told = OBJECTS["b"]
        let = 0
        for other in bent(rng, told, 250):
            found = is_object(other)
            self.assertIsInstance(found, bool)
            if found:
                self.assertEqual(object_of(other[1], dict(other[3]), other[2]), other)
                self.assertFalse(has_odd_bools(other))
            if found or self.is_linked(other):
                let += 1
                continue
            with self.assertRaises(BadObjects):
                stale(UNITS, {"b": other}, 6)
        self.assertGreater(let, 5)

    def is_linked(self, other):
        """Whether it is taken for an object by its form."""
        try:
            linked([OBJECTS["a"], other, OBJECTS["d"]], 0)
        except BadObject as error:
            self.assertEqual(error.at, 1)
            return False
        except (BadOrder, TwoUnits):
            return True

    def test_wrong(self):
        for thing in odd_values():
            if not is_unit(thing):
                self.assertRaises(BadUnit, object_of, thing, 0, 0)
            if thing != {}:
                self.assertRaises(BadFaces, object_of, A, thing, 0)
        self.assertRaises(BadFaces, object_of, B, {}, 0)
        for thing in odd_values() + [5, 10]:
            self.assertRaises(BadRegisters, object_of, read_unit("unit u function f() { show zz }"), {}, thing)
        with self.assertRaises(Faulty) as caught:
            object_of(read_unit("unit u function f() { show zz return 1 }"), {}, 6)
        self.assertEqual((caught.exception.fault, caught.exception.unit), (("f", 0, "unknown", "zz"), "u"))
        self.assertRaises(KindClash, object_of, read_unit("unit u function f() { if 1 { } return 1 }"), {}, 6)


class Linked(unittest.TestCase):
    def test_by_hand(self):
        word, registers, codes, kinds = BUNDLE
        self.assertEqual((word, registers), ("bundle", 6))
        self.assertEqual([code[0] for code in codes], ["p", "q", "f", "g", "h", "k"])
        self.assertEqual(codes[2], OBJECTS["a"][5][0][1])
        self.assertEqual(kinds, A[3])
        self.assertIs(is_bundle(BUNDLE), True)

    def test_errors(self):
        a, b, d = [OBJECTS[name] for name in "abd"]
        for thing in odd_values():
            if not isinstance(thing, (list, tuple)) or len(thing) == 0:
                with self.assertRaises(BadObject) as caught:
                    linked(thing, 0)
                self.assertIsNone(caught.exception.at)
            with self.assertRaises(BadObject) as caught:
                linked([a, thing, b], 0)
            self.assertEqual(caught.exception.at, 1)
        with self.assertRaises(TwoUnits) as caught:
            linked([b, a, d, a, b], 0)
        self.assertEqual(caught.exception.name, "a")
        other = OBJECTS_7["a"]
        for order in odd_values() + [["a"], ["a", "a"], ["a", "b", "d"], ["a", 0], {"a": 1, "b": 1}, "ab"]:
            self.assertRaises(BadOrder, linked, [b, other], order)
        self.assertRaises(OtherRegisters, linked, [b, OBJECTS_7["d"]], ["b", "d"])
        with self.assertRaises(Missing) as caught:
            linked([d], ["d"])
        self.assertEqual(caught.exception.unit, "b")
        # What is missing goes ahead of another face.
        changed_a = object_of(read_unit("unit a function f(n) { return n } function t(n) { return n }"), {}, 6)
        with self.assertRaises(Missing) as caught:
            linked([d, changed_a], ["a", "d"])
        self.assertEqual(caught.exception.unit, "b")
        with self.assertRaises(OtherFace) as caught:
            linked([changed_a, d, b], ["a", "b", "d"])
        self.assertEqual(caught.exception.unit, "a")
        for text, name in (("unit z function h(n) { return n } function f(n) { return n }", "f"), ("unit z choice w = zz", "w"), ("unit z choice zz = k", None),
                           ("unit z row h of number choice r = c", "c")):
            told = object_of(read_unit(text + " function yy() { return 1 }"), {}, 6)
            if name is None:
                name = "k"
            with self.assertRaises(TwoNames) as caught:
                linked([a, b, told], ["a", "b", "z"])
            self.assertEqual(caught.exception.name, name)

    def test_orders_run_alike(self):
        rng = random.Random(3)
        asked = 0
        for program in sound_programs(rng, 5):
            objects = list(build(list(program.units), {}, rng.randint(6, 9))[0].values())
            bundles = []
            for _ in range(2):
                order = [unit[1] for unit in program.units]
                rng.shuffle(order)
                rng.shuffle(objects)
                bundles.append(linked(objects, tuple(order)))
                self.assertEqual([code[0] for code in bundles[-1][2]], [f[1] for name in order for u in program.units if u[1] == name for f in u[4]])
            for name, arguments in starts_of(program, rng)[:4]:
                runs = [led(Codes(list(b[3]), list(b[2])), name, arguments, 200) for b in [*bundles, kept(bundles[0], [name])]]
                self.assertEqual(runs[0], runs[1])
                self.assertEqual(runs[0], runs[2])
                outputs, end, _ = told_run(program, name, arguments, 200)
                if ("cut",) not in (end, runs[0][1]):
                    self.assertEqual(runs[0][:2], (outputs, end))
                    asked += 1
        self.assertGreater(asked, 5)


OBJECTS_7 = build(UNITS, {}, 7)[0]


class Bundles(unittest.TestCase):
    def test_bent_bundles(self):
        for turn in (as_list, as_bool, as_number):
            others = list(changed(BUNDLE, turn))
            for other in others[:: max(1, len(others) // 60)]:
                if turn is not as_number:
                    self.assertIs(is_bundle(other), False)
        word, registers, codes, kinds = BUNDLE
        for other in (
            (word, 5, codes, kinds), (word, 10, codes, kinds), ("image", registers, codes, kinds), BUNDLE[:3], (word, registers, codes[1:], kinds[:1]),
            (word, registers, codes[:2] + codes[3:], kinds), (word, registers, (*codes, codes[0]), kinds), (word, registers, codes, kinds[::-1]),
            (word, registers, codes, kinds[1:]), (word, registers, codes, (*kinds, ("row", "z", "zz"))), (word, registers, codes, (*kinds, kinds[1])),
            (word, registers, codes, (*kinds, ("choice", "z", (("v", ()),)))), (word, registers, list(codes), kinds), (word, registers, codes, list(kinds)),
            (word, registers, tuple(pair[0] for pair in OBJECTS["a"][5]), kinds),
        ):
            self.assertIs(is_bundle(other), False, other)
        for other in ((word, 7, codes, kinds), (word, registers, (), ()), (word, registers, (), kinds), (word, registers, codes, (*kinds, ("row", "z", "truth"))),
                      (word, registers, codes[::-1], kinds)):
            self.assertIs(is_bundle(other), True)
        seven = linked(list(OBJECTS_7.values()), ["a", "b", "d"])
        uses = {part for code in seven[2] for _, rows, _ in code[2].values() for row in rows for part in row if isinstance(part, str)}
        self.assertIs(is_bundle(("bundle", 6, *seven[2:])), "r6" not in uses)
        stranger = ("zz", "q", {0: ((("r0", "q"),), ((None, "mark", (("zz", 0, ()),)),), ("return", "r0"))})
        self.assertIs(is_bundle((word, registers, (*codes, stranger), kinds)), False)
        for thing in odd_values():
            self.assertIs(is_bundle(thing), False)

    def test_bent_at_any_place(self):
        rng = random.Random(10)
        let = 0
        for other in bent(rng, BUNDLE, 300):
            if is_bundle(other):
                let += 1
                self.assertFalse(has_odd_bools(other))
                Codes(list(other[3]), list(other[2]))
                self.assertEqual(read_image(image(other))[0], other)
            else:
                self.assertRaises(BadBundle, calls_of, other)
        self.assertGreater(let, 15)

    def test_calls_of(self):
        told = calls_of(BUNDLE)
        self.assertEqual(list(told), ["f", "g", "h", "k", "p", "q"])
        found = {}
        for name, _, blocks in BUNDLE[2]:
            found[name] = set()
            for _, rows, end in blocks.values():
                found[name] |= {row[2] for row in rows if row[1] == "call"} | ({end[1]} if end[0] == "try" else set())
        self.assertEqual(told, {name: tuple(sorted(found[name])) for name in found})
        self.assertEqual(told["h"], ("f",))

    def test_kept(self):
        for functions, wanted in (([], []), (["g"], ["g"]), (["h"], None), (("q", "g"), None), (["q", "p", "q"], None)):
            found = kept(BUNDLE, functions)
            calls = calls_of(BUNDLE)
            met = set(functions)
            for _ in calls:
                met |= {other for name in met for other in calls[name]}
            self.assertEqual([code[0] for code in found[2]], [code[0] for code in BUNDLE[2] if code[0] in met])
            self.assertTrue(wanted is None or [code[0] for code in found[2]] == wanted)
            self.assertEqual((found[:2], found[3]), (BUNDLE[:2], BUNDLE[3]))
            self.assertTrue(is_bundle(found))

    def test_wrong(self):
        for thing in odd_values():
            self.assertRaises(BadBundle, calls_of, thing)
            self.assertRaises(BadBundle, kept, thing, 0)
            if not isinstance(thing, (list, tuple)):
                with self.assertRaises(NoFunction) as caught:
                    kept(BUNDLE, thing)
                self.assertIsNone(caught.exception.name)
            with self.assertRaises(NoFunction) as caught:
                kept(BUNDLE, ["f", thing, "zz"])
            self.assertEqual(repr(caught.exception.name), repr(thing))


class Again(unittest.TestCase):
    def check(self, units, objects, registers, wanted):
        before = copy.deepcopy((units, objects))
        self.assertEqual(stale(units, objects, registers), wanted)
        found, compiled = build(units, objects, registers)
        self.assertEqual((units, objects), before)
        self.assertEqual(compiled, wanted)
        faces = all_faces(units)
        self.assertEqual(list(found), sorted(unit[1] for unit in units))
        for unit in units:
            self.assertEqual(found[unit[1]], object_of(unit, faces_for(unit, faces), registers))
        self.assertEqual(stale(units, found, registers), ())
        for name in found:
            if name in objects:
                for pair, other in zip(found[name][5], objects[name][5]):
                    self.assertIsNot(pair[0][2], other[0][2])
        return found

    def test_what_is_compiled(self):
        self.check(UNITS, {}, 6, ("a", "b", "d"))
        self.check(UNITS, OBJECTS, 6, ())
        self.check(tuple(UNITS[::-1]), OBJECTS, 6, ())
        self.check(UNITS, OBJECTS, 7, ("a", "b", "d"))
        self.check(UNITS, {**OBJECTS, "b": OBJECTS_7["b"]}, 6, ("b",))
        # A changed text, the face as it was.
        other = read_unit("unit a choice c = v | w(number, c) row r of c function f(n) { return n over 1 } function g(n) { return n * 2 }")
        self.check([D, B, other], OBJECTS, 6, ("a",))
        # A changed face of what b and d use.
        other = read_unit("unit a choice c = v | w(number, c) row r of c function f(n) { return n over 1 } function g(n) { return 0 < n }")
        self.check([D, B, other], OBJECTS, 6, ("a", "b", "d"))
        # A changed face of b, which d alone uses.
        other = read_unit("unit b uses a function h(n) { return f(n) } function k(n) { return make v } function l() { return 1 }")
        self.check([D, A, other], OBJECTS, 6, ("b", "d"))
        # A unit more, and units that are no more.
        more = read_unit("unit e uses d, a function s() { return p(1) }")
        self.check([*UNITS, more], OBJECTS, 6, ("e",))
        self.check([A], OBJECTS, 6, ())
        self.check([A, B], {"d": OBJECTS["d"], "b": OBJECTS["b"]}, 6, ("a",))

    def test_faces_that_come_to_be_others(self):
        # The kind that b's function takes follows from a: so d, which uses b alone, is compiled too.
        a = read_unit("unit a function f(n) { return n + 1 }")
        b = read_unit("unit b uses a function h(n) { return f(n) }")
        d = read_unit("unit d uses b function p() { return 1 }")
        objects = build([a, b, d], {}, 6)[0]
        self.check([read_unit("unit a function f(n) { return 0 < n }"), b, d], objects, 6, ("a", "b", "d"))
        self.check([read_unit("unit a function f(n) { return n + 2 }"), b, d], objects, 6, ("a",))
        self.check([read_unit("unit a function f(n) { return n + 1 } function z() { return 1 }"), b, d], objects, 6, ("a", "b"))

    def test_runs_as_if_made_anew(self):
        rng = random.Random(5)
        for program in sound_programs(rng, 3):
            units = list(program.units)
            objects = build(units, {}, 6)[0]
            gone = rng.choice(units)[1]
            found = self.check(units, {name: objects[name] for name in objects if name != gone}, 6, (gone,))
            self.assertEqual(linked(list(found.values()), list(found)), linked(list(objects.values()), list(objects)))
            self.assertEqual(Program(units).faces, all_faces(units))

    def test_wrong(self):
        for call in (build, stale):
            for thing in odd_values():
                if not isinstance(thing, (list, tuple)) or not thing:
                    self.assertRaises(BadUnits, call, thing, 0, 0)
                with self.assertRaises(BadUnits) as caught:
                    call([A, thing], 0, 0)
                self.assertEqual(caught.exception.at, 1)
            self.assertRaises(NoUnit, call, [B], 0, 0)
            self.assertRaises(UsesRing, call, [read_unit("unit u uses u")], 0, 0)
            for thing in odd_values() + [{"a": 1, 0: 1}, {"unit": 1}, [OBJECTS["a"]]]:
                if thing != {} and not (isinstance(thing, dict) and all(isinstance(key, str) for key in thing)):
                    with self.assertRaises(BadObjects) as caught:
                        call(UNITS, thing, 0)
                    self.assertIsNone(caught.exception.name)
                with self.assertRaises(BadObjects) as caught:
                    call(UNITS, {"z": thing, "b": thing, "a": OBJECTS["a"]}, 0)
                self.assertEqual(caught.exception.name, "b")
            with self.assertRaises(BadObjects) as caught:
                call(UNITS, {"a": OBJECTS["b"]}, 0)
            self.assertEqual(caught.exception.name, "a")
            faulty = read_unit("unit z function f() { show zz return 1 }")
            for thing in odd_values() + [5, 10]:
                self.assertRaises(BadRegisters, call, [faulty], {}, thing)
            self.assertRaises(Faulty, call, [faulty], {}, 6)
            self.assertRaises(KindClash, call, [read_unit("unit u function f() { if 1 { } return 1 }")], {}, 6)
            twice = [A, read_unit("unit y function f() { return 1 }"), read_unit("unit x uses a, y")]
            self.assertRaises(BadFaces, call, twice, {}, 6)


if __name__ == "__main__":
    unittest.main()
