"""Points 40 to 42: the plain run."""

import random
import unittest

from odd_values import as_bool, as_list, changed, odd_values
from random_programs import random_units
from stopanywhere.errors import (
    BadArguments, BadChosen, BadFaces, BadMoment, BadMost, BadProgram, BadUnits, Faulty, KindClash, NoFunction, NotNow,
    NoUnit, TwoNames, UsesRing,
)
from stopanywhere.faces import all_faces
from stopanywhere.kinds import kinds_of
from stopanywhere.names import in_sight, order_of
from stopanywhere.plain import Plain, Program, fits, narrowed, told_run
from stopanywhere.texts import read_unit
from stopanywhere.trees import statements

EXAMPLE = "unit u function f(n) { let a = n + 1 while 0 < a { show a set a = a - 1 } return a }"
KINDS = "unit u choice c = v | w(number, c) row r of number row s of r row d of c "


def program(*texts):
    return Program([read_unit(text) for text in texts])


def run(text, function="f", arguments=(), most=1000):
    return told_run(program(text), function, list(arguments), most)


def of(block, head="unit u"):
    """Outputs and end of a function f of these statements."""
    outputs, end, _ = run(head + " function f() { " + block + " }")
    return outputs, end


def words(text, function="f", arguments=()):
    """The words of the events of a run."""
    plain = Plain(program(text), function, list(arguments))
    found = []
    while plain.step() != "end":
        found.append(plain.events())
    plain = Plain(program(text), function, list(arguments))
    return [plain.step() for _ in found]


class Example(unittest.TestCase):
    def test_points_and_moments(self):
        outputs, end, moments = run(EXAMPLE, "f", [0])
        points = [moment[0][0][1] for moment in moments]
        self.assertEqual(points, [0, 1, 2, 2, 3, 1, 4])
        self.assertEqual((outputs, end), ([1], ("returned", 0, ())))
        self.assertEqual(moments[5], ((("f", 1, (("a", 0), ("n", 0))),), (), 1))
        plain = Plain(program(EXAMPLE), "f", [0])
        passed = []
        while plain.go():
            passed.append(plain.moment()[0][0][1])
        self.assertEqual(passed, [0, 1, 2, 3, 1, 4])
        self.assertFalse(plain.go())


class Worths(unittest.TestCase):
    def shown(self, expression, head="unit u"):
        outputs, end = of("show " + expression + " return 0", head)
        return outputs[0] if outputs else end[:2]

    def test_reckoning(self):
        for text, worth in (
            ("2 + 3 * -4", -10), ("7 over 2", 3), ("7 over -2", -4), ("-7 over 2", -4), ("-7 over -2", 3),
            ("7 rest 2", 1), ("7 rest -2", -1), ("-7 rest 2", 1), ("-7 rest -2", -1), ("0 over 5", 0),
            ("999999999999 * 999999999999", 999999999999 ** 2), ("1 - 1 - 1", -1),
            ("1 over 0", ("failed", -1)), ("0 rest 0", ("failed", -1)), ("1 over (1 - 1)", ("failed", -1)),
        ):
            self.assertEqual(self.shown(text), worth, text)

    def test_truths(self):
        for text, worth in (
            ("1 < 2", 1), ("2 < 2", 0), ("2 <= 2", 1), ("3 <= 2", 0), ("2 == 2", 1), ("2 == 3", 0), ("not true", 0),
            ("not false", 1), ("true and false", 0), ("true and true", 1), ("false or true", 1), ("false or false", 0),
            ("false and 1 over 0 == 1", 0), ("true or 1 over 0 == 1", 1), ("not (1 < 2 or 1 over 0 < 1)", 0),
        ):
            self.assertEqual(of("return " + text)[1], ("returned", worth, ()), text)
        for text in ("true and 1 over 0 == 1", "false or 1 over 0 == 1"):
            self.assertEqual(of("return " + text)[1], ("failed", -1, (("f", 0),)))

    def test_rows(self):
        for text, worth in (
            ("long r(new r(0, 1))", 0), ("long r(new r(50, 1))", 50), ("long r(new r(51, 1))", ("failed", -2)),
            ("long r(new r(-1, 1))", ("failed", -2)), ("at r(new r(2, 7), 1)", 7),
            ("at r(new r(2, 7), 2)", ("failed", -2)), ("at r(new r(2, 7), -1)", ("failed", -2)),
            ("at r(new r(0, 7), 0)", ("failed", -2)),
        ):
            self.assertEqual(self.shown(text, KINDS), worth, text)

    def test_order_of_parts(self):
        head = KINDS + "function e(a) { show a return a } function t(a) { show a return true } "
        for text, told in (
            ("e(1) + e(2) * e(3)", [1, 2, 3]), ("g(e(1), e(2), e(3))", [1, 2, 3]), ("at r(new r(e(1), e(2)), e(0))", [1, 2, 0]),
            ("h(t(1) and not t(2) and t(3))", [1, 2]), ("h(t(1) or t(2))", [1]), ("h(t(1) and t(2))", [1, 2]),
            ("k(make w(e(1), make w(e(2), make v)))", [1, 2]),
        ):
            functions = (
                "function g(a, b, c) { return a } function h(a) { if a { return 1 } return 0 } "
                "function k(a) { match a { v { return 0 } w(n, m) { return n } } } "
            )
            outputs, _, _ = run(head + functions + "function f() { let a = " + text + " return a }")
            self.assertEqual(outputs, told, text)
        outputs, _, _ = run(
            head + "function f() { let x = new r(2, 0) put r(x, e(1)) = e(5) put r(x, e(0)) = at r(x, e(1)) "
            "show at r(x, 0) put r(x, e(9)) = e(8) return 0 }"
        )
        self.assertEqual(outputs, [1, 5, 0, 1, 5, 9, 8])

    def test_rows_are_shared_and_choices_never_change(self):
        self.assertEqual(of(
            "let x = new r(2, 0) let y = x let z = new s(2, x) put r(y, 0) = 5 put r(at s(z, 1), 1) = 6 show at r(x, 0) "
            "show at r(x, 1) return z", KINDS
        ), ([5, 6], ("returned", ("row", 0), (("s", (("row", 1), ("row", 1))), ("r", (5, 6))))))
        self.assertEqual(of(
            "let x = make w(1, make v) let y = x set x = make w(2, x) return make w(3, y)", KINDS
        )[1], ("returned", ("w", (3, ("w", (1, ("v", ()))))), ()))

    def test_a_row_that_leads_to_itself(self):
        head = "unit u choice c = v | o(d) row d of c "
        self.assertEqual(of("let x = new d(2, make v) put d(x, 1) = make o(x) return make o(x)", head)[1], (
            "returned", ("o", (("row", 0),)), (("d", (("v", ()), ("o", (("row", 0),)))),),
        ))

    def test_statements(self):
        self.assertEqual(of("if 1 < 2 { show 1 } else { show 2 } if 2 < 1 { show 3 } else { show 4 } if 2 < 1 { show 5 } "
                            "return 0")[0], [1, 4])
        self.assertEqual(of("let a = 0 while a < 3 { show a set a = a + 1 } show 9 while false { show 8 } return a"),
                         ([0, 1, 2, 9], ("returned", 3, ())))
        self.assertEqual(of(
            "let a = make w(4, make v) match a { v { show 1 } w(n, m) { show n match m { w(p, q) { show p } v { show 2 } } } } "
            "return 0", KINDS)[0], [4, 2])
        self.assertEqual(of("fail 2 * 3"), ([], ("failed", 6, (("f", 0),))))
        self.assertEqual(of("while true { if true { return 7 } }return 8"), ([], ("returned", 7, ())))


class Failures(unittest.TestCase):
    G = "function g(a) { show a if a < 0 { fail a } return 10 over a } "

    def test_traces(self):
        head = "unit u " + self.G + "function h(b) { show 0 return 1 + g(b) } "
        _, end, _ = run(head + "function f(c) { let x = h(c) return x }", "f", [0])
        self.assertEqual(end, ("failed", -1, (("f", 0), ("h", 1), ("g", 3))))
        _, end, _ = run(head + "function f(c) { let x = h(c) return x }", "f", [-5])
        self.assertEqual(end, ("failed", -5, (("f", 0), ("h", 1), ("g", 2))))

    def test_tries(self):
        head = "unit u " + self.G + "function h(b) { return g(b) } "
        for number, told in ((5, ([5, 2], 2)), (0, ([0, -101], -101)), (-3, ([-3, -103], -103))):
            outputs, end, _ = run(head + "function f(c) { try x = h(c) else y: y - 100 show x return x }", "f", [number])
            self.assertEqual((outputs, end), (told[0], ("returned", told[1], ())))

    def test_what_is_ahead_of_the_call_is_not_caught(self):
        head = "unit u " + self.G
        self.assertEqual(of("try x = g(g(-1)) else y: 0 return x", head)[1], ("failed", -1, (("f", 0), ("g", 2))))
        self.assertEqual(of("try x = g(1 over 0) else y: 0 return x", head)[1], ("failed", -1, (("f", 0),)))

    def test_the_last_expression_is_not_caught(self):
        head = "unit u " + self.G
        self.assertEqual(of("try x = g(-1) else y: g(y - 1) return x", head)[1], ("failed", -2, (("f", 0), ("g", 2))))

    def test_the_innermost_try_catches(self):
        head = "unit u " + self.G + "function h(b) { try x = g(b) else y: y * 10 return x - 1 } "
        self.assertEqual(of("try x = h(-2) else y: 99 return x", head)[1], ("returned", -21, ()))
        self.assertEqual(of("try x = g(1) else y: 99 return g(0 - x)", head)[1], ("failed", -10, (("f", 1), ("g", 2))))

    def test_a_try_that_came_back_catches_no_more(self):
        head = "unit u " + self.G + "function h(b) { try x = g(b) else y: y show g(0 - x) return x } "
        self.assertEqual(of("let a = h(1) return a", head)[1], ("failed", -10, (("f", 0), ("h", 1), ("g", 2))))
        self.assertEqual(of("let a = h(-1) return a", head), ([-1, 1, 10], ("returned", -1, ())))
        # The outer try still catches what the inner one does not.
        self.assertEqual(of("try a = h(1) else b: b * 3 return a", head)[1], ("returned", -30, ()))

    def test_one_event_however_many_frames_end(self):
        text = "unit u " + self.G + "function h(b) { return g(b) } function f() { try x = h(-1) else y: y return x }"
        self.assertEqual(words(text), ["point", "point", "point", "show", "point", "point", "back", "point"])


class Events(unittest.TestCase):
    def test_words(self):
        text = KINDS + "function g(a) { put r(a, 0) = 1 return a } function f() { let x = g(new r(1, 0)) show long r(x) return x }"
        self.assertEqual(words(text), ["point", "point", "put", "point", "back", "point", "show", "point"])

    def test_steps_and_counts(self):
        plain = Plain(program=program(EXAMPLE), function="f", arguments=(0,))
        self.assertEqual((plain.events(), plain.outputs(), plain.end()), (0, [], ("cut",)))
        found = []
        while plain.end() == ("cut",):
            found.append(plain.step())
            self.assertEqual(plain.events(), len(found) - (found[-1] == "end"))
        self.assertEqual(found, ["point"] * 3 + ["show"] + ["point"] * 3 + ["end"])
        for _ in range(3):
            self.assertEqual(plain.step(), "end")
            self.assertFalse(plain.go())
        self.assertEqual((plain.events(), plain.end()), (7, ("returned", 0, ())))

    def test_not_now(self):
        plain = Plain(program(EXAMPLE), "f", [0])
        with self.assertRaises(NotNow) as caught:
            plain.moment()
        self.assertEqual(caught.exception.word, "begin")
        self.assertEqual(plain.step(), "point")
        self.assertEqual(plain.moment(), ((("f", 0, (("n", 0),)),), (), 0))
        while plain.step() != "end":
            plain.moment()
        with self.assertRaises(NotNow) as caught:
            plain.moment()
        self.assertEqual(caught.exception.word, "end")

    def test_moments_within_calls_and_tries(self):
        text = (
            "unit u row r of number function g(a) { put r(a, 0) = 7 return a } "
            "function f(b, n) { let x = new r(1, n) try y = g(x) else z: x if b { return y } return x }"
        )
        _, _, moments = run(text, "f", [True, 3])
        self.assertEqual(moments[1:5], [
            ((("f", 1, (("b", 1), ("n", 3), ("x", ("row", 0)))),), (("r", (3,)),), 0),
            ((("f", 1, (("b", 1), ("n", 3), ("x", ("row", 0)))), ("g", 0, (("a", ("row", 0)),))), (("r", (3,)),), 0),
            ((("f", 1, (("b", 1), ("n", 3), ("x", ("row", 0)))), ("g", 0, (("a", ("row", 0)),))), (("r", (7,)),), 0),
            ((("f", 1, (("b", 1), ("n", 3), ("x", ("row", 0)))), ("g", 1, (("a", ("row", 0)),))), (("r", (7,)),), 0),
        ])
        self.assertEqual(moments[5], ((("f", 1, (("b", 1), ("n", 3), ("x", ("row", 0)))),), (("r", (7,)),), 0))
        self.assertEqual(moments[6], (
            (("f", 2, (("b", 1), ("n", 3), ("x", ("row", 0)), ("y", ("row", 0)))),), (("r", (7,)),), 0,
        ))

    def test_rows_are_met_in_order(self):
        text = KINDS + (
            "function f() { let b = new r(1, 1) let a = new s(2, b) let c = new r(1, 2) put s(a, 1) = c let x = c return 0 }"
        )
        _, _, moments = run(text)
        self.assertEqual(moments[-1], (
            (("f", 5, (("a", ("row", 0)), ("b", ("row", 1)), ("c", ("row", 2)), ("x", ("row", 2)))),),
            (("s", (("row", 1), ("row", 2))), ("r", (1,)), ("r", (2,))), 0,
        ))

    def test_lists_are_new(self):
        plain = Plain(program(EXAMPLE), "f", [2])
        while plain.step() != "end":
            plain.outputs().append(99)
        plain.outputs().clear()
        self.assertEqual(plain.outputs(), [3, 2, 1])

    def test_arguments_may_be_changed_later(self):
        arguments = [2]
        plain = Plain(program(EXAMPLE), "f", arguments)
        arguments[0] = 5
        arguments.append(1)
        while plain.go():
            pass
        self.assertEqual(plain.outputs(), [3, 2, 1])


class ToldRuns(unittest.TestCase):
    def test_runs_that_are_cut(self):
        outputs, end, moments = run(EXAMPLE, "f", [2])
        self.assertEqual(len(moments), 15)
        for most in range(18):
            found = told_run(program=program(EXAMPLE), function="f", arguments=[2], most=most)
            many = min(most, 15)
            self.assertEqual(found[2], moments[:many])
            self.assertEqual(found[1], end if most > 15 else ("cut",))
            shown = moments[many - 1][2] if many else 0
            self.assertEqual(found[0], outputs[:shown])

    def test_no_end(self):
        outputs, end, moments = run("unit u function f() { while true { } return 1 }", most=20000)
        self.assertEqual((outputs, end, len(moments)), ([], ("cut",), 20000))
        _, end, moments = run("unit u function f() { return f() }", most=150)
        self.assertEqual(moments[-1], (tuple([("f", 0, ())] * 150), (), 0))

    def test_random_programs(self):
        rng = random.Random(19)
        seen = {}
        done = 0
        while done < 25:
            units = random_units(rng)
            try:
                made = Program(units)
            except KindClash:
                continue
            done += 1
            for unit in units:
                for name, taken, result in made.faces[unit[1]][3]:
                    if all(kind in ("number", "truth") for kind in taken):
                        arguments = [rng.randint(-2, 4) if kind == "number" else rng.random() < 0.5 for kind in taken]
                        end = self.held(made, units, name, arguments, result)
                        seen[end] = seen.get(end, 0) + 1
        self.assertEqual(set(seen), {"returned", "failed", "cut"})

    def held(self, made, units, name, arguments, result):
        """Each variable holds what its kind lets, just those in sight are told, and events are counted."""
        outputs, end, moments = told_run(made, name, arguments, 120)
        functions, kinds, declared = {}, {}, {}
        for unit in units:
            used = {other: made.faces[other] for other in unit[2]}
            for function in unit[4]:
                functions[function[1]] = function
                taken, _, variables = kinds_of(unit, used)[function[1]]
                kinds[function[1]] = {**dict(zip(function[2], taken)), **variables}
            for declaration in unit[3]:
                declared[declaration[1]] = declaration
        plain = Plain(made, name, arguments)
        for moment in moments:
            word = plain.step()
            self.assertEqual(plain.moment(), moment)
            self.assertIn(word, ("point", "put", "show", "back"))
            frames, rows, shown = moment
            self.assertEqual(shown, len(plain.outputs()))
            for function, point, variables in frames:
                self.assertLess(point, len(statements(functions[function])))
                names = in_sight(functions[function], point)
                self.assertEqual([variable for variable, _ in variables], sorted(names))
                for variable, picture in variables:
                    self.assertTrue(self.fitting(picture, kinds[function][variable], rows, declared))
            for kind, held in rows:
                for picture in held:
                    self.assertTrue(self.fitting(picture, declared[kind][2], rows, declared))
        if end[0] == "returned":
            self.assertTrue(self.fitting(end[1], result, end[2], declared))
        self.assertTrue(all(isinstance(number, int) and not isinstance(number, bool) for number in outputs))
        return end[0]

    def fitting(self, picture, kind, rows, declared):
        if kind == "number":
            return isinstance(picture, int) and not isinstance(picture, bool)
        if kind == "truth":
            return picture in (0, 1) and not isinstance(picture, bool)
        if declared[kind][0] == "row":
            return picture[0] == "row" and rows[picture[1]][0] == kind
        fields = dict(declared[kind][2])[picture[0]]
        return len(fields) == len(picture[1]) and all(
            self.fitting(part, field, rows, declared) for part, field in zip(picture[1], fields)
        )


class Programs(unittest.TestCase):
    A = "unit a row k of number function f(x) { return x + 1 }"
    B = "unit b uses a function g(x) { return f(x) * 2 } function h(x) { return new k(x, x) }"

    def test_attributes(self):
        units = [read_unit(self.B), read_unit(self.A)]
        found = Program(units=units)
        self.assertEqual(found.units, (units[1], units[0]))
        self.assertIsInstance(found.units, tuple)
        self.assertEqual(found.order, ("a", "b"))
        self.assertEqual(found.faces, all_faces(units))
        self.assertEqual(list(found.faces), ["a", "b"])
        self.assertEqual(order_of(units), found.order)
        units.clear()
        self.assertEqual(len(found.units), 2)
        self.assertEqual(told_run(found, "g", [4], 10)[1], ("returned", 10, ()))

    def test_equality(self):
        one = program(self.A, self.B)
        self.assertTrue(one == program(self.B, self.A))
        self.assertFalse(one != program(self.B, self.A))
        self.assertFalse(one == program(self.A))
        self.assertTrue(one != program(self.A))
        for thing in odd_values() + [one.units]:
            self.assertFalse(one == thing)

    def test_errors_of_faces(self):
        for units in ([], None, 5):
            self.assertRaises(BadUnits, Program, units)
        self.assertRaises(BadUnits, Program, [read_unit(self.A), read_unit(self.A)])
        self.assertRaises(NoUnit, Program, [read_unit(self.B)])
        self.assertRaises(UsesRing, Program, [read_unit("unit a uses a")])
        self.assertRaises(Faulty, Program, [read_unit("unit a function f() { }")])
        self.assertRaises(KindClash, Program, [read_unit("unit a function f() { fail true }")])
        self.assertRaises(BadFaces, Program, [
            read_unit("unit a row k of k"), read_unit("unit b row k of k"), read_unit("unit c uses a, b"),
        ])

    def test_two_names(self):
        with self.assertRaises(TwoNames) as caught:
            program("unit a row k of k function g() { return 1 }", "unit b choice z = k function g() { return 1 }")
        self.assertEqual(caught.exception.name, "g")
        with self.assertRaises(TwoNames) as caught:
            program("unit a row z of z function k() { return 1 }", "unit b choice z = k", "unit c row m of m")
        self.assertEqual(caught.exception.name, "k")
        program("unit a row b of number function c(a) { return a }", "unit b row a of number", "unit c row d of number")


class WrongArguments(unittest.TestCase):
    def test_programs(self):
        for thing in odd_values():
            if not isinstance(thing, Program):
                self.assertRaises(BadProgram, Plain, thing, 1, None)
                self.assertRaises(BadProgram, told_run, thing, 1, None, None)

    def test_functions(self):
        made = program(KINDS + "function f(a, b) { show a if b { } return a } function g(a) { return long r(a) }", "unit x")
        for thing in odd_values() + ["g", "u", "c", "v", "a", "x"]:
            for call in (lambda: Plain(made, thing, None), lambda: told_run(made, thing, None, None)):
                with self.assertRaises(NoFunction) as caught:
                    call()
                self.assertEqual(repr(caught.exception.name), repr(thing))

    def test_arguments(self):
        made = program("unit u function f(a, b) { show a if b { } return a } function g() { return 1 }")
        for thing in odd_values() + [
            [1], [1, True, 1], [True, True], [1, 1], [1, 0], [0, None], ["1", True], {0: 1, 1: True}, "ab", [True, 1],
        ]:
            self.assertRaises(BadArguments, Plain, made, "f", thing)
            self.assertRaises(BadArguments, told_run, made, "f", thing, None)
            if not (isinstance(thing, (list, tuple)) and len(thing) == 0):
                self.assertRaises(BadArguments, Plain, made, "g", thing)
        for thing in ([1, True], (1, False), [-10 ** 11, True]):
            self.assertEqual(told_run(made, "f", thing, 1)[2][0][0][0][2][1], ("b", int(thing[1])))

    def test_most(self):
        made = program(EXAMPLE)
        for thing in odd_values() + [-1, 20001, True, False, 1.5, "1"]:
            if not (isinstance(thing, int) and not isinstance(thing, bool) and 0 <= thing <= 20000):
                self.assertRaises(BadMost, told_run, made, "f", [1], thing)
        self.assertEqual(told_run(made, "f", [1], 20000)[1][0], "returned")


class Moments(unittest.TestCase):
    MOMENT = (
        (
            ("f", 3, (("a", ("row", 1)), ("b", ("w", (5, ("row", 0)))), ("x", 7))),
            ("g", 0, (("a", -1), ("c", ("row", 2)))),
        ),
        (("r", (1, 2)), ("s", (("row", 0), ("row", 3))), ("r", ()), ("d", (("w", (1, ("row", 1))),))), 4,
    )

    def test_narrowed(self):
        told = narrowed(self.MOMENT, [["b"], ["c", "a"]])
        self.assertEqual(told, (
            (("f", 3, (("b", ("w", (5, ("row", 0)))),)), ("g", 0, (("a", -1), ("c", ("row", 1))))),
            (("r", (1, 2)), ("r", ())), 4,
        ))
        told = narrowed(moment=self.MOMENT, chosen=(("x", "a"), []))
        self.assertEqual(told, (
            (("f", 3, (("a", ("row", 0)), ("x", 7))), ("g", 0, ())),
            (("s", (("row", 1), ("row", 2))), ("r", (1, 2)), ("d", (("w", (1, ("row", 0))),))), 4,
        ))
        self.assertEqual(narrowed(self.MOMENT, [[], ()]), ((("f", 3, ()), ("g", 0, ())), (), 4))

    def test_all_of_a_moment_of_a_run(self):
        text = KINDS + "function f() { let b = new r(1, 1) let a = new s(2, b) let c = make w(long r(b), make v) return 0 }"
        for moment in run(text)[2]:
            chosen = [[name for name, _ in frame[2]] for frame in moment[0]]
            self.assertEqual(narrowed(moment, chosen), moment)
            self.assertTrue(fits(moment, moment))

    def test_wrong_choice(self):
        for chosen in (
            [], [[]], [[], [], []], [["a", "a"], []], [["c"], []], [[], ["b"]], [["a"], "a"], [["a"], None], None,
            {0: ["a"], 1: []}, [[1], []], [[["a"]], []], "ab", [("a", None), ()], [{"a": 1}, []],
        ):
            self.assertRaises(BadChosen, narrowed, self.MOMENT, chosen)
        for thing in odd_values():
            self.assertRaises(BadChosen, narrowed, self.MOMENT, thing)
            self.assertRaises(BadChosen, narrowed, self.MOMENT, [thing, ["b"]])
            self.assertRaises(BadChosen, narrowed, self.MOMENT, [["b", thing, thing], []])

    def test_fits(self):
        for chosen in ([["b"], ["c", "a"]], [["x", "a"], []], [[], []], [["a", "b", "x"], ["a", "c"]]):
            told = narrowed(self.MOMENT, chosen)
            self.assertTrue(fits(moment=told, other=self.MOMENT))
            # What narrowing gives has its rows in the order of being met, which this moment has not.
            self.assertFalse(fits(self.MOMENT, told))
        one = narrowed(self.MOMENT, [["b"], ["c", "a"]])
        frames, rows, shown = one
        for other in (
            (frames[:1], (("r", (1, 2)),), shown), (frames, rows, 5), ((("f", 2) + frames[0][2:], frames[1]), rows, shown),
            ((("g", 3) + frames[0][2:], frames[1]), rows, shown), (frames, (("r", (1, 3)), ("r", ())), shown),
            (frames, (("q", (1, 2)), ("r", ())), shown), (frames[::-1], rows, shown),
        ):
            self.assertFalse(fits(other, self.MOMENT), other)
        self.assertFalse(fits(((("f", 0, (("z", 1),)),), (), 0), ((("f", 0, (("y", 1),)),), (), 0)))
        # A row that no told variable leads to cannot come of narrowing.
        self.assertFalse(fits(((("f", 0, ()),), (("r", ()),), 0), ((("f", 0, ()),), (("r", ()),), 0)))

    def test_what_is_no_moment(self):
        rng = random.Random(20)
        wrong = [thing for turn in (as_list, as_bool) for thing in changed(self.MOMENT, turn)]
        frames, rows, shown = self.MOMENT
        wrong += [
            (frames, rows), (frames, rows, -1), (frames, rows, None), (frames, rows[:3], shown), (frames, (), shown),
            (frames, rows[:3] + (("d", (("w", (1, ("row", 4))),)),), shown), (frames, rows + (("of", ()),), shown),
            (frames, rows + (("r", (None,)),), shown), (frames, rows + (("r",),), shown),
            ((("if", 0, ()),), (), 0), ((("f", -1, ()),), (), 0), ((("f", 0, (("b", 1), ("a", 1))),), (), 0),
            ((("f", 0, (("a", 1), ("a", 1))),), (), 0), ((("f", 0, (("of", 1),)),), (), 0), ((("f", 0),), (), 0),
            ((("f", 0, (("a", ("row", -1)),)),), (("r", ()),), 0), ((("f", 0, (("a", ("of", ())),)),), (), 0),
            ((("f", 0, (("a", ("v", (), ())),)),), (), 0), ((("f", 0, (("a", ("v", 1)),)),), (), 0),
            ((("f", 0, (("a",),)),), (), 0), ((("f", None, ()),), (), 0), ((("f", 0, (("a", None),)),), (), 0),
            ((("f", 0, (("a", ("row", 0, 0)),)),), (("r", ()),), 0),
        ] + odd_values()
        for thing in wrong:
            self.assertRaises(BadMoment, narrowed, thing, rng.choice([None, []]))
            self.assertRaises(BadMoment, fits, thing, self.MOMENT)
            self.assertRaises(BadMoment, fits, self.MOMENT, thing)


if __name__ == "__main__":
    unittest.main()
