"""Point 56, and what named code and the plain run have in common."""

import random
import unittest

from code_runner import run_codes
from odd_values import odd_values
from random_programs import random_units
from stopanywhere.errors import BadFaces, BadUnit, Faulty, KindClash, NoFunction
from stopanywhere.forms import Scope, is_named
from stopanywhere.kinds import kinds_of
from stopanywhere.lowering import named_code, named_codes, scope_of
from stopanywhere.names import in_sight
from stopanywhere.plain import Program, told_run
from stopanywhere.texts import read_unit
from stopanywhere.trees import is_unit, statements
from stopanywhere.ways import stand_ins

FACE = ("face", "b", (("choice", "k", (("v", ()), ("w", ("truth", "k")))), ("row", "r", "k")), (
    ("e", ("number", "k"), "truth"), ("g", (), "r"),
))


def leads(end):
    return {"jump": end[1:2], "branch": end[2:], "try": end[3:]}.get(end[0], ())


def codes_of(program):
    """The codes of all functions of a program and the scope of all."""
    codes, kinds, functions = {}, [], {}
    for unit in program.units:
        faces = {name: program.faces[name] for name in unit[2]}
        codes.update(named_codes(unit, faces))
        kinds.extend(unit[3])
        functions.update(scope_of(unit, faces).functions)
    return codes, Scope(kinds, functions)


class Case(unittest.TestCase):
    def check_form(self, unit, faces, code):
        """Marks and stills as they must be, all else of named code, and no parameter that another place stands for."""
        scope = scope_of(unit, faces)
        self.assertTrue(is_named(code, scope))
        self.assertEqual(stand_ins(code, scope), {})
        name, _, blocks = code
        function = [tree for tree in unit[4] if tree[1] == name][0]
        self.assertTrue(all(number < 4000 for number in blocks))
        taken, _, variables = kinds_of(unit, faces)[name]
        kinds = {**dict(zip(function[2], taken)), **variables}
        points = set()
        for parameters, rows, _ in blocks.values():
            self.assertTrue(all(int(place[1:]) < 4000 for place, _ in parameters))
            for row in rows:
                if row[0] is not None:
                    self.assertLess(int(row[0][1:]), 4000)
                if row[1] in ("mark", "back", "still"):
                    self.assertIn(row[1], ("mark", "still"))
                    points.add(self.check_frames(function, kinds, row[2]))
        self.assertEqual(points, set(range(len(statements(function)))) & points)
        self.check_stills(blocks)

    def check_frames(self, function, kinds, frames):
        self.assertEqual(len(frames), 1)
        name, point, variables = frames[0]
        self.assertEqual(name, function[1])
        self.assertEqual([variable for variable, _, _ in variables], sorted(in_sight(function, point)))
        for variable, kind, formula in variables:
            self.assertEqual(kind, "number" if kinds[variable] == "truth" else kinds[variable])
            self.assertTrue(formula[0] == "is" or (formula[0] == "of" and formula[2:] == (1, 0)), formula)
        return point

    def check_stills(self, blocks):
        """The frames of a still are of the point whose mark was passed last on every way there."""
        coming = [(0, None)]
        met = set(coming)
        for number, last in coming:
            _, rows, end = blocks[number]
            for row in rows:
                if row[1] == "mark":
                    last = row[2][0][1]
                if row[1] == "still":
                    self.assertEqual(row[2][0][1], last)
            for other in leads(end):
                if (other, last) not in met:
                    met.add((other, last))
                    coming.append((other, last))

    def same_runs(self, program, function, arguments, most=200):
        codes, scope = codes_of(program)
        told = told_run(program, function, arguments, most)
        self.assertEqual(run_codes(scope, codes, function, arguments, most), told)
        return told


class NamedCode(Case):
    def same(self, text, *arguments, head="unit u choice c = v | w(number, c) | x(truth) row r of number "):
        unit = read_unit(head + text)
        for name, code in named_codes(unit, {}).items():
            self.check_form(unit, {}, code)
        return self.same_runs(Program([unit]), "f", list(arguments))

    def test_the_example(self):
        text = "function f(n) { let a = n + 1 while 0 < a { show a set a = a - 1 } return a }"
        for number in range(-2, 4):
            self.same(text, number)

    def test_rings(self):
        self.same("function f(n) { while 0 < n { set n = n - 1 } return n }", 3)
        self.same("function f(n) { while n < 5 and (n == 1 or n < 3) { set n = n + 1 while false { } } return n }", 0)
        self.same("function f(n) { while true { if n == 4 { return n } set n = n + 1 } return 0 }", 0)
        self.same("function f(n, m) { let a = 0 while a < n { let b = 0 while b < m { if a == b { show a set m = m - 1 } "
                  "set b = b + 1 } set a = a + 1 } return m }", 3, 4)
        self.same("function f(n) { while n < 3 { if n == 1 { } else { while n == 0 { set n = 1 } } set n = n + 1 } return n }", 0)
        self.same("function f(n) { while n < 9 { set n = n + 1 if n < 5 { if n < 3 { show n } } else { if n == 7 { show 0 } } } "
                  "return n }", 0)

    def test_truths_are_numbers(self):
        outputs, end, _ = self.same("function f(b, n) { let x = not b let y = x or n < 2 and b if y { show 1 } return y == y }"
                                    .replace("y == y", "x or y"), True, 1)
        self.assertEqual((outputs, end[:2]), ([1], ("returned", 1)))
        self.same("function f(b) { if b and b { return 1 } return 0 }", False)
        self.same("function f(b) { let x = b set b = b or b and true set x = not (b and x) return x }", True)

    def test_parts_that_are_decided(self):
        head = "function t(n) { show n return 0 < n } "
        for numbers in ((1, 1), (1, -1), (-1, 1), (-1, -1)):
            for word in ("and", "or"):
                self.same(head + f"function f(n, m) {{ let x = t(n) {word} (t(m) {word} t(n)) if x {{ show 9 }} return x }}", *numbers)

    def test_matches(self):
        head = (
            "function m(a) { match a { w(n, b) { show n match b { x(d) { if d { return 7 } return 8 } v { return 1 } w(p, q) { "
            "return m(q) + p } } } x(e) { if e { show 5 } } v { } } return 0 } "
        )
        for worth in ("make v", "make x(true)", "make x(1 < n)", "make w(n, make v)", "make w(n, make x(false))",
                      "make w(1, make w(2, make w(3, make v)))"):
            self.same(head + "function f(n) { let y = m(" + worth + ") show y return " + worth + " }", 4)
        self.same("function f(n) { match make one(n) { one(a) { show a set n = a } } return n }", 3, head="unit u choice c = one(number) ")

    def test_tries(self):
        head = "function g(n) { if n == 0 { fail 7 } show n return 10 over (n - 3) } "
        for number in (0, 3, 5):
            self.same(head + "function f(n) { try a = g(n) else b: b * 2 show a try d = g(a) else e: g(e + 1) return d }", number)
            self.same(head + "function f(n) { while n < 6 { try a = g(n) else b: 0 - b set n = n + 1 } return n }", number)
            self.same(head + "function f(n) { if n < 4 { try a = g(g(n)) else b: b } else { } return n }", number)

    def test_rows(self):
        for length in (-1, 0, 3, 50, 51):
            for index in (-1, 0, 2, 3):
                self.same("function f(n, i) { let x = new r(n, 7) show long r(x) put r(x, i) = 9 show at r(x, i) return x }",
                          length, index)

    def test_rows_of_rows_and_rows_that_lead_to_themselves(self):
        head = "unit u choice c = v | o(d) | p(c, c) row d of c row e of d row t of truth "
        outputs, end, _ = self.same(
            "function f(n) { let x = new d(n, make v) let y = new e(2, x) put d(x, 0) = make o(x) "
            "put e(y, 1) = new d(1, make p(make o(x), at d(x, 1))) put d(at e(y, 0), n - 1) = make p(make v, make o(at e(y, 1))) "
            "show long d(at e(y, 0)) let z = new t(n, n < 3) put t(z, 1) = not at t(z, 0) if at t(z, 1) { show 1 } return y }",
            3, head=head,
        )
        self.assertEqual((outputs, end), ([3, 1], ("returned", ("row", 0), (
            ("e", (("row", 1), ("row", 2))),
            ("d", (("o", (("row", 1),)), ("v", ()), ("p", (("v", ()), ("o", (("row", 2),)))))),
            ("d", (("p", (("o", (("row", 1),)), ("v", ()))),)),
        ))))
        for number in (0, 1, 2):
            self.same("function g(a) { put d(a, 0) = make o(a) put d(a, 1) = make v return a } "
                      "function f(n) { let x = new d(n, make v) try y = g(x) else z: new d(z + 3, make o(x)) return y }",
                      number, head=head)

    def test_ends(self):
        self.same("function f(n) { if n < 1 { return 1 } else { fail 2 } }", 0)
        self.same("function f(n) { if n < 1 { return 1 } else { fail 2 } }", 1)
        self.same("function f(n) { return 1 over n }", 0)
        self.same("function g(n) { return f(n - 1) } function f(n) { if n < 0 { fail n } return g(n) }", 3)

    def test_all_functions(self):
        unit = read_unit("unit u function g(a) { return f(a) } function f(b) { return b + 1 }")
        found = named_codes(unit=unit, faces={})
        self.assertEqual(list(found), ["f", "g"])
        self.assertEqual(named_code(unit=unit, faces={}, name="g"), found["g"])
        self.assertEqual(named_codes(read_unit("unit u"), {}), {})
        found["f"][2].clear()
        self.assertTrue(named_codes(unit, {})["f"][2])
        for code in named_codes(unit, {}).values():
            self.assertEqual(list(code[2]), sorted(code[2]))


class RandomPrograms(Case):
    def test_runs(self):
        rng = random.Random(27)
        ends = {}
        done = 0
        while done < 30:
            units = random_units(rng)
            rng.shuffle(units)
            try:
                program = Program(units)
            except KindClash:
                continue
            done += 1
            for unit in program.units:
                faces = {name: program.faces[name] for name in unit[2]}
                for code in named_codes(unit, faces).values():
                    self.check_form(unit, faces, code)
                for name, taken, _ in program.faces[unit[1]][3]:
                    if all(kind in ("number", "truth") for kind in taken):
                        for most in (0, rng.randint(1, 20), 150):
                            arguments = [rng.randint(-2, 5) if kind == "number" else rng.random() < 0.5 for kind in taken]
                            end = self.same_runs(program, name, arguments, most)[1]
                            ends[end[0]] = ends.get(end[0], 0) + 1
        self.assertGreater(min(ends.values()), 20)
        self.assertEqual(len(ends), 3)


class ScopeOf(Case):
    UNIT = read_unit("unit u uses b choice a = z(truth, k) row q of a function f(x, y) { return not x } function h() { return g() }")

    def test_what_is_in_sight(self):
        found = scope_of(unit=self.UNIT, faces={"b": FACE})
        self.assertTrue(found == Scope(
            [("choice", "a", (("z", ("truth", "k")),)), FACE[2][0], ("row", "q", "a"), FACE[2][1]],
            {"e": (("number", "k"), "truth"), "f": (("truth", "number"), "truth"), "g": ((), "r"), "h": ((), "r")},
        ))
        self.assertEqual(found.fields("z"), ("number", "k"))
        self.assertTrue(scope_of(read_unit("unit u"), {}) == Scope([], {}))

    def test_errors(self):
        clashing = read_unit("unit u function f() { show true return 1 }")
        faulty = read_unit("unit u function f() { }")
        for call in (scope_of, named_codes, lambda unit, faces: named_code(unit, faces, None)):
            for thing in odd_values():
                if not is_unit(thing):
                    self.assertRaises(BadUnit, call, thing, None)
                self.assertRaises(BadFaces, call, self.UNIT, thing)
            with self.assertRaises(Faulty) as caught:
                call(faulty, {})
            self.assertEqual((caught.exception.fault, caught.exception.unit), (("f", None, "open", ""), "u"))
            with self.assertRaises(KindClash) as caught:
                call(clashing, {})
            self.assertEqual(caught.exception.unit, "u")
        for thing in odd_values() + ["e", "g", "u", "x"]:
            with self.assertRaises(NoFunction) as caught:
                named_code(self.UNIT, {"b": FACE}, thing)
            self.assertEqual(repr(caught.exception.name), repr(thing))


if __name__ == "__main__":
    unittest.main()
