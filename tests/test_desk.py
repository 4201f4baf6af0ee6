"""Point 130: a desk that is led and asked by lines."""

import random
import unittest

from code_tools import sound_programs, starts_of
from odd_values import odd_values
from stopanywhere.desk import Desk
from stopanywhere.errors import BadArguments, BadCount, BadText, BadTexts, Faulty, KindClash, NoFunction, NoUnit, TwoNames
from stopanywhere.lowering import named_codes, scope_of
from stopanywhere.making import codes_at
from stopanywhere.passes import lean
from stopanywhere.placing import placed_code
from stopanywhere.plain import Plain, Program
from stopanywhere.texts import places_of, read_unit, unit_text

ONE = """unit one
choice tree = leaf | node(tree, number, tree)
row list of number
row lists of list

function f(n) {
  let a = n
  let t = new list(2, n)
  let s = new lists(2, t)
  let k = make node(make leaf, a, make leaf)
  while 0 < a {
    put list(t, 0) = a
    show a
    set a = a - 1
  }
  show long list(t) show long lists(s)
  match k { leaf { return 0 } node(l, m, r) {
    show m
    return g(a)
  } }
}
function g(m) { return m over m }
"""
TWO = """unit two uses one
function h(b, n) {
  try x = f(n) else y: y
  if b { return x }
  return x + 1
}
function p() { return 5 }
function q(n) { let w = n while true { set w = w + 1 } return w }
"""
TEXTS = [TWO, ONE]
LEVELS = ("named", "lean", "placed", "image")


def desk(function="f", arguments=(2,), count=6):
    return Desk(TEXTS, function, list(arguments), count)


class Deeds(unittest.TestCase):
    def says(self, told, *pairs):
        for line, answer in zip(pairs[::2], pairs[1::2]):
            self.assertEqual(told.say(line), answer, line)

    def test_the_beginning(self):
        self.says(desk(), "where", "f 0", "line", "one 7 3", "names", "n", "worth n", "2", "shown", "-", "back 1", "none", "last", "none", "change n", "none",
                  "where", "f 0", "collect", "point 1 event 1", "worth a", "error BadName")

    def test_next_last_until(self):
        told = desk()
        self.says(told, "next", "point 2 event 2", "line", "one 8 3", "next", "point 3 event 3", "next", "point 4 event 4", "next", "point 5 event 5",
                  "where", "f 4", "names", "a k n s t", "until one 13", "point 7 event 8", "line", "one 13 5", "shown", "-", "next", "point 8 event 10", "shown", "2",
                  "until one 13", "point 11 event 14", "shown", "2", "last", "point 10 event 12", "worth a", "1", "last", "point 9 event 11", "last", "point 8 event 10",
                  "until one 12", "point 10 event 12", "until one 12", "none", "until one 99", "none", "until zz 3", "error BadName", "until two 3", "none",
                  "where", "f 5", "until one 18", "point 17 event 23", "line", "one 18 5", "shown", "2 1 2 2")
        # Two statements in one line, and one that begins in another line than its block.
        self.says(desk(), "until one 16", "point 14 event 18", "line", "one 16 3", "until one 16", "point 15 event 20", "line", "one 16 21",
                  "until one 17", "point 16 event 22", "line", "one 17 3")

    def test_the_end(self):
        told = desk()
        self.says(told, "forth 9999", "failed -1", "forth 1", "none", "next", "none", "where", "none", "line", "none", "names", "none", "worth a", "none",
                  "worth zz", "none", "shown", "2 1 2 2 2", "change a", "error NotTold", "collect", "failed -1", "until one 13", "none", "until zz 1", "error BadName",
                  "level named", "failed -1", "last", "point 19 event 26", "where", "f 13 g 0", "line", "one 22 17", "worth m", "0", "next", "failed -1")
        self.says(desk("p", ()), "next", "ended", "last", "point 1 event 1", "forth 1", "point 1 event 1", "level lean", "point 1 event 1", "next", "ended",
                  "level image", "ended", "back 1", "point 1 event 1")
        self.says(desk("h", (True, 0)), "until two 4", "point 13 event 17", "where", "h 1", "names", "b n x", "worth x", "-1", "next", "point 14 event 18", "next", "ended")

    def test_worths(self):
        told = desk()
        self.says(told, "until one 12", "point 6 event 6", "level named", "point 6 event 6", "worth t", "#0[2, 2]", "worth s", "#0[#1[2, 2], #1]",
                  "worth k", "node(leaf, 2, leaf)", "worth n", "2", "level placed", "point 6 event 6", "names", "a k n s t")

    def test_rows_that_come_again(self):
        told = Desk(["unit u row r of q choice q = e | o(r) | p(r, r) function f() { let a = new r(2, make e) let b = new r(1, make o(a)) put r(a, 0) = make o(a) "
                     "put r(a, 1) = make p(b, b) let d = make p(b, a) show long r(a) match d { p(g, h) { show long r(g) } o(i) { } e { } } return 1 }"], "f", [], 6)
        self.says(told, "next", "point 2 event 2", "worth a", "#0[e, e]", "next", "point 3 event 3", "level named", "point 3 event 3",
                  "worth b", "#0[o(#1[e, e])]", "next", "point 4 event 5", "worth a", "#0[o(#0), e]", "next", "point 5 event 7")
        self.assertIn(told.say("worth a"), ("#0[o(#0), p(#1[o(#0)], #1)]", "lost"))
        self.says(told, "next", "point 6 event 8", "worth d", "p(#0[o(#1[o(#1), p(#0, #0)])], #1)")

    def test_rows_are_numbered_by_their_meeting(self):
        # First those of the worth itself from left to right, then those of row 0, row 1 and so on.
        told = Desk(["unit u row r of q choice q = e | o(r) | p(r, r) function f() { let c = new r(1, make e) let b = new r(1, make o(c)) let a = new r(2, make o(new r(0, make e))) "
                     "let d = make p(b, a) match d { p(g, h) { show long r(g) } o(i) { } e { } } return 1 }"], "f", [], 6)
        self.says(told, "next", "point 2 event 2", "next", "point 3 event 3", "next", "point 4 event 4", "next", "point 5 event 5", "level named", "point 5 event 5",
                  "worth d", "p(#0[o(#2[e])], #1[o(#3[]), o(#3)])")

    def test_change(self):
        told = desk()
        self.says(told, "until one 16", "point 14 event 18")
        self.assertEqual(told.say("worth a"), "0")
        self.assertTrue(told.say("change a").startswith("point 12 event 1"))
        self.assertEqual(told.say("worth a"), "1")
        self.assertTrue(told.say("change a").startswith("point 8 event 1"))
        self.says(told, "worth a", "2", "change a", "none", "worth a", "2", "change zz", "error NotTold", "change n", "none")

    def test_collect_and_level_change_no_answer(self):
        rng = random.Random(2)
        for _ in range(4):
            told, other = desk(), desk()
            for _ in range(12):
                many = rng.randint(1, 9)
                self.assertEqual(told.say(f"forth {many}"), other.say(f"forth {many}"))
                told.say("collect")
                for line in ("where", "line", "names", "shown", "worth a", "worth t", "worth k", "worth s", "worth m", "worth n"):
                    self.assertEqual(told.say(line), other.say(line), line)
            before = told.say("where")
            told.say("back 3")
            told.say("forth 3")
            self.assertEqual(told.say("where"), before)

    def test_forth_and_back(self):
        rng = random.Random(3)
        told = desk("h", (False, 3), 7)
        for _ in range(25):
            told.say(f"forth {rng.randint(1, 9)}")
            if told.say("where") == "none":
                break
            many = rng.randint(1, 30)
            before = [told.say(line) for line in ("where", "line", "names", "shown")]
            answer = told.say(f"forth {many}")
            if answer not in ("ended", "none"):
                told.say(f"back {many}")
                self.assertEqual([told.say(line) for line in ("where", "line", "names", "shown")], before)

    def test_a_run_that_never_ends(self):
        told = desk("q", (1,))
        self.says(told, "until two 2", "none")
        for _ in range(3):
            answer = told.say("forth 9999")
        self.assertRegex(answer, "^point [0-9]+ event [0-9]+$")
        self.assertGreater(int(answer.split()[3]), 9999)
        following = told.say("next")
        self.assertEqual([int(part) for part in following.split()[1::2]], [int(part) + 1 for part in answer.split()[1::2]])
        self.assertEqual(told.say("last"), answer)


class BesideThePlainRun(unittest.TestCase):
    def test_levels(self):
        rng = random.Random(5)
        asked = 0
        for program in sound_programs(rng, 4):
            texts = [unit_text(unit) for unit in program.units]
            rng.shuffle(texts)
            homes = {function[1]: unit[1] for unit in program.units for function in unit[4]}
            places = {read_unit(text)[1]: places_of(text) for text in texts}
            for name, arguments in starts_of(program, rng)[:2]:
                told = Desk(texts, name, arguments, rng.randint(6, 9))
                plain = Plain(program, name, arguments)
                points = 0
                for _ in range(12):
                    if not plain.go():
                        end = plain.end()
                        self.assertEqual(told.say("next"), "ended" if end[0] == "returned" else f"failed {end[1]}")
                        for level in LEVELS:
                            self.assertEqual(told.say(f"level {level}"), "ended" if end[0] == "returned" else f"failed {end[1]}")
                        break
                    points += 1
                    answer = f"point {points} event {plain.events()}"
                    self.assertEqual(told.say("next") if points > 1 else f"point 1 event {plain.events()}", answer)
                    frames, _, shown = plain.moment()
                    self.assertEqual(told.say("where"), " ".join(f"{frame[0]} {frame[1]}" for frame in frames))
                    function, point, variables = frames[-1]
                    self.assertEqual(told.say("line"), f"{homes[function]} %d %d" % places[homes[function]][function][point])
                    self.assertEqual(told.say("names"), " ".join(x for x, _ in variables) or "-")
                    self.assertEqual(told.say("shown"), " ".join(map(str, plain.outputs())) or "-")
                    level = rng.choice(LEVELS)
                    self.assertEqual(told.say(f"level {level}"), answer)
                    for x, worth in variables:
                        found = told.say(f"worth {x}")
                        if isinstance(worth, int):
                            self.assertIn(found, (str(worth), "lost") if level != "named" else (str(worth),))
                        asked += 1
        self.assertGreater(asked, 30)


class WhatIsSaid(unittest.TestCase):
    def test_what(self):
        told = desk()
        for line in odd_values() + [
            "forth", "forth 0", "forth -1", "forth 01", "forth 10000", "forth 1 ", " forth 1", "forth  1", "forth a", "forth 1 2", "back", "back 0", "back x", "next 1",
            "next ", "last 1", "until", "until one", "until one 0", "until One 1", "until row 1", "until one 1 1", "until 1 one", "change", "change 1", "change a b",
            "change set", "collect 1", "level", "level Named", "level machine", "level named x", "where 1", "line 1", "names x", "worth", "worth 1", "worth a b",
            "worth abcdefghi", "shown 1", "Forth 1", "forth\n1", "forth \u0661", "forth 1\n", "point", "error", "say", "forth 12345",
        ]:
            self.assertEqual(told.say(line), "what", line)
        self.assertEqual(told.say("where"), "f 0")
        self.assertEqual(told.say(line="where"), "f 0")

    def test_errors_change_nothing(self):
        told = desk()
        told.say("forth 20")
        before = [told.say(line) for line in ("where", "line", "names", "shown")]
        for line in ("worth zz", "until zz 1", "change zz", "worth m", "until tree 4"):
            self.assertTrue(told.say(line).startswith("error "))
            self.assertEqual([told.say(line) for line in ("where", "line", "names", "shown")], before)


class Making(unittest.TestCase):
    def test_levels(self):
        program = Program([read_unit(text) for text in TEXTS])
        named, better = {}, {}
        for unit in program.units:
            faces = {name: program.faces[name] for name in unit[2]}
            told = named_codes(unit, faces)
            named.update(told)
            better.update(lean(scope_of(unit, faces), told)[0])
        self.assertNotEqual(named, better)
        self.assertEqual(codes_at(program, "named", 6).codes, named)
        self.assertEqual(codes_at(program, "lean", 6).codes, better)
        for registers in (6, 9):
            placed = {name: placed_code(better[name], registers)[0] for name in better}
            self.assertEqual(codes_at(program, "placed", registers).codes, placed)
            self.assertEqual(codes_at(program, "image", registers).codes, placed)

    def test_what_levels_and_collections_change(self):
        told = desk()
        self.assertEqual(told.session().state()[0][0][:3], ("f", 0, 0))
        self.assertEqual({place[0] for place in told.session().state()[0][0][3]}, {"r"})
        told.say("level named")
        self.assertEqual({place[0] for place in told.session().state()[0][0][3]}, {"v"})
        told.say("until one 18")
        self.assertGreater(len(told.session().state()[1]), len(told.session().reached()))
        told.say("collect")
        self.assertEqual(sorted(told.session().state()[1]), sorted(told.session().reached()))

    def test_six_texts(self):
        texts = [f"unit u{letter} function f{letter}() {{ return 1 }}" for letter in "abcdef"]
        self.assertEqual(Desk(texts, "fd", [], 6).say("next"), "ended")

    def test_errors(self):
        for thing in odd_values() + [[], [ONE] * 7, {0: ONE}, ONE]:
            if not isinstance(thing, (list, tuple)) or not 1 <= len(thing) <= 6:
                self.assertRaises(BadTexts, Desk, thing, 0, 0, 0)
        for thing in odd_values():
            with self.assertRaises(BadText):
                Desk([ONE, thing, "unit"], 0, 0, 0)
        with self.assertRaises(BadText) as caught:
            Desk([ONE, "unit u\nshow", 7], 0, 0, 0)
        self.assertEqual((caught.exception.line, caught.exception.column), (2, 1))
        self.assertRaises(NoUnit, Desk, [TWO], 0, 0, 0)
        self.assertRaises(Faulty, Desk, ["unit u function f() { return x }"], 0, 0, 0)
        self.assertRaises(KindClash, Desk, ["unit u function f() { if 1 { } return 1 }"], 0, 0, 0)
        self.assertRaises(TwoNames, Desk, [ONE, "unit u function f() { return 1 }"], 0, 0, 0)
        for thing in odd_values() + ["zz", "tree"]:
            self.assertRaises(NoFunction, Desk, TEXTS, thing, 0, 0)
        for thing in odd_values() + [[1], [True], [True, True], (1, 2), [0, 0, 0]]:
            self.assertRaises(BadArguments, Desk, TEXTS, "h", thing, 0)
        for thing in odd_values() + [5, 10]:
            with self.assertRaises(BadCount) as caught:
                Desk(TEXTS, "h", [True, 1], thing)
            self.assertEqual(repr(caught.exception.count), repr(thing))

    def test_what_is_passed(self):
        texts, arguments = list(TEXTS), [2]
        told = Desk(texts=texts, function="f", arguments=arguments, count=9)
        texts.clear()
        arguments.append(7)
        self.assertEqual(told.say("level named"), "point 1 event 1")
        self.assertEqual((texts, arguments), ([], [2, 7]))
        self.assertEqual(Desk(tuple(TEXTS), "f", (2,), 6).say("next"), "point 2 event 2")
        self.assertTrue(Program([read_unit(ONE), read_unit(TWO)]))


if __name__ == "__main__":
    unittest.main()
