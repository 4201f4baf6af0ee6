"""Point 110: runs led forth and back, what they tell, and boxes moved."""

import random
import unittest

from code_tools import kinds_and_codes, sound_programs, starts_of
from odd_values import odd_values
from stopanywhere.collecting import alike_states, collected, reached_of
from stopanywhere.errors import BadAddresses, BadArguments, BadDepth, BadMost, BadWalk, NoFunction, NotNow, NotTold
from stopanywhere.forms import scope_of_codes
from stopanywhere.lowering import named_codes
from stopanywhere.passes import lean
from stopanywhere.placing import placed_code
from stopanywhere.plain import Program, fits, told_run
from stopanywhere.runner import Codes
from stopanywhere.sessions import Session, led
from stopanywhere.texts import read_unit
from stopanywhere.walks import walk

UNIT = read_unit(
    "unit u choice c = v | w(number, c) row r of number "
    "function f(n) { let a = n let t = new r(2, n) let k = g(a) while 0 < a { put r(t, 0) = a set a = a - 1 } set a = g(a) show a return k } "
    "function g(m) { let z = m + 1 set z = z * 2 return z } function h(n) { return make w(n over n, make v) } "
    "function e(n) { try x = i(n) else y: y return x } function i(n) { let b = n fail b }"
)
KINDS = list(UNIT[3])
NAMED = Codes(KINDS, list(named_codes(UNIT, {}).values()))
PLACED = Codes(KINDS, [placed_code(code, 6)[0] for code in named_codes(UNIT, {}).values()])
BOTH = (NAMED, PLACED)


def levels(rng, many):
    """The codes of random programs, at some levels, with starts."""
    for program in sound_programs(rng, many):
        kinds, codes = kinds_and_codes(program)
        scope = scope_of_codes(kinds, list(codes.values()))
        leaner = lean(scope, codes)[0]
        told = [codes, leaner, {name: placed_code(leaner[name], rng.randint(6, 9))[0] for name in codes}]
        for at, level in enumerate(told):
            runner = Codes(kinds, list(level.values()))
            for name, arguments in starts_of(program, rng)[:3]:
                yield program, runner, name, arguments, at


class Led(unittest.TestCase):
    def test_programs(self):
        rng = random.Random(3)
        ends = 0
        for program, runner, name, arguments, at in levels(rng, 8):
            outputs, end, moments = told_run(program, name, arguments, 200)
            other_outputs, other_end, other_moments = led(runner, name, arguments, 500)
            self.assertEqual(list(other_moments), sorted(other_moments))
            if ("cut",) not in (end, other_end):
                self.assertEqual((other_outputs, other_end), (outputs, end))
                self.assertLessEqual(max(other_moments), len(moments))
                ends += 1
            for event, moment in other_moments.items():
                if 0 < event <= len(moments):
                    self.assertTrue(fits(moment, moments[event - 1]))
                    if at == 0:
                        self.check_numbers(moment, moments[event - 1])
        self.assertGreater(ends, 30)

    def check_numbers(self, moment, plain):
        """Whether no number is lost."""
        for (_, _, told), (_, _, wanted) in zip(moment[0], plain[0]):
            self.assertEqual([pair for pair in wanted if isinstance(pair[1], int) and pair not in told], [])

    def test_first_states(self):
        for codes in BOTH:
            outputs, end, moments = led(codes, "f", [3], 60)
            session = Session(codes, "f", [3])
            wanted = {}
            for _ in range(61):
                if session.end() == ("cut",):
                    wanted.setdefault(session.events(), session.moment())
                    session.forth(1)
            # The state behind the last step counts too, if it is no end.
            self.assertEqual(moments, wanted)
            self.assertEqual((led(codes, "f", [3], 0)[:2], list(led(codes, "f", [3], 0)[2])), (([], ("cut",)), [1]))
        self.assertEqual(led(NAMED, "f", [3], 900)[1], walk(NAMED, "f", [3], 900)[1])
        self.assertEqual(led(NAMED, "h", [3], 900)[1], ("returned", ("w", (1, ("v", ()))), ()))
        self.assertEqual(led(PLACED, "h", [0], 900)[1], ("failed", -1, (("h", 0),)))
        self.assertEqual(led(PLACED, "e", [4], 900)[:2], ([], ("returned", 4, ())))

    def test_moments_of_a_walk(self):
        rng = random.Random(4)
        for program, runner, name, arguments, at in levels(rng, 3):
            if at < 2:
                outputs, end, moments = walk(runner, name, arguments, 150)
                for event, moment in led(runner, name, arguments, 150)[2].items():
                    self.assertTrue(event == 0 or fits(moment, moments[event - 1]))


class ForthAndBack(unittest.TestCase):
    def test_drawn_ways(self):
        rng = random.Random(5)
        for program, runner, name, arguments, _ in levels(rng, 4):
            states = [runner.begin(name, arguments)]
            while len(states) < 130 and states[-1][3] is None:
                states.append(runner.step(states[-1]))
            plain = told_run(program, name, arguments, 140)[2]
            session = Session(runner, name, arguments)
            at = 0
            for _ in range(25):
                many = rng.choice([0, 1, 2, 5, 33, 64, 200])
                if rng.random() < 0.5:
                    many = min(many, 129 - at)
                    done = min(many, len(states) - 1 - at)
                    self.assertEqual(session.forth(many), done)
                    at += done
                else:
                    self.assertEqual(session.back(many), min(many, at))
                    at -= min(many, at)
                self.assertEqual((session.at(), session.state()), (at, states[at]))
                self.assertEqual((session.events(), session.outputs()), (states[at][4], list(states[at][2])))
                self.assertEqual(session.end() == ("cut",), states[at][3] is None)
                if states[at][3] is None and 0 < states[at][4] <= len(plain):
                    self.assertTrue(fits(session.moment(), plain[states[at][4] - 1]))

    def test_to_events(self):
        rng = random.Random(6)
        for program, runner, name, arguments, _ in levels(rng, 3):
            states = [runner.begin(name, arguments)]
            while len(states) < 90 and states[-1][3] is None:
                states.append(runner.step(states[-1]))
            first = {}
            for at, state in enumerate(states):
                first.setdefault(state[4], at)
            session = Session(runner, name, arguments)
            is_whole = states[-1][3] is not None
            for _ in range(20):
                many = rng.randint(0, max(first) + (5 if is_whole else 0))
                before = session.at()
                if rng.random() < 0.3:
                    session.forth(rng.randint(0, max(0, min(3, len(states) - 1 - before))))
                    before = session.at()
                is_there = session.to_events(many)
                self.assertIs(is_there, many in first)
                self.assertEqual(session.at(), first[many] if is_there else before)
                self.assertEqual(session.state(), states[session.at()])

    def test_to_events_that_never_come(self):
        ring = ("q", "number", {0: ((("v0", "number"),), ((None, "mark", (("q", 0, ()),)),), ("jump", 1, ())),
                               1: ((), ((None, "still", (("q", 0, ()),)),), ("jump", 1, ()))})
        session = Session(Codes([], [ring]), "q", [1])
        session.forth(3)
        self.assertIs(session.to_events(2), False)
        self.assertEqual(session.at(), 3)
        self.assertIs(session.to_events(1), True)
        self.assertEqual(session.at(), 0)
        self.assertIs(session.to_events(0), False)

    def test_two_sessions(self):
        one, other = Session(PLACED, "f", [3]), Session(PLACED, "f", [3])
        one.forth(25)
        states = [one.state()]
        other.forth(50)
        other.move([number + 3 for number in range(len(other.reached()))])
        other.back(40)
        self.assertEqual(one.state(), states[0])
        other.forth(15)
        self.assertEqual(other.state(), one.state())
        # What is told out may be changed.
        told = one.state()
        told[0][0][3].clear()
        told[1].clear()
        one.outputs().append(7)
        one.told()[0][2].clear()
        self.assertEqual(one.state(), states[0])
        self.assertEqual(one.moment(), other.moment())


class Told(unittest.TestCase):
    def test_by_hand(self):
        for codes in BOTH:
            session = Session(codes, "f", [2])
            self.assertEqual((session.at(), session.events(), session.end()), (0, 1, ("cut",)))
            self.assertEqual(session.moment(), ((("f", 0, (("n", 2),)),), (), 0))
            self.assertEqual(session.told(), [("f", 0, {"n": ("is", 2)})])
            self.assertTrue(session.to_events(4))
            moment = session.moment()
            self.assertEqual([frame[:2] for frame in moment[0]], [("f", 2), ("g", 0)])
            self.assertEqual(moment[0][1], ("g", 0, (("m", 2),)))
            self.assertTrue(session.to_events(9))
            self.assertEqual(session.moment()[0][0][:2], ("f", 4))
            self.assertIs(session.to_events(10), False)
            self.assertEqual(session.events(), 9)
            self.assertIs(session.to_events(11), True)
            self.assertEqual((session.events(), session.moment()[0][0][:2]), (11, ("f", 5)))
            session.forth(900)
            self.assertRaises(NotNow, session.moment)
            self.assertRaises(NotNow, session.told)
            self.assertEqual(session.outputs(), [2])

    def test_rows_are_numbered_as_in_the_moment(self):
        session = Session(NAMED, "f", [2])
        session.to_events(9)
        frames, rows, shown = session.moment()
        self.assertEqual(dict(frames[0][2])["t"], ("row", 0))
        self.assertEqual(session.told()[0][2]["t"], ("is", ("row", 0)))
        self.assertEqual((rows, shown), ((("r", (2, 2)),), 0))
        session.to_events(15)
        self.assertEqual(session.moment()[1], (("r", (1, 2)),))

    def test_told_and_moment(self):
        rng = random.Random(7)
        lost = 0
        for program, runner, name, arguments, _ in levels(rng, 4):
            session = Session(runner, name, arguments)
            for _ in range(40):
                if session.end() != ("cut",):
                    break
                told, moment = session.told(), session.moment()
                self.assertEqual([frame[:2] for frame in told], [frame[:2] for frame in moment[0]])
                for (_, _, worths), (_, _, variables) in zip(told, moment[0]):
                    self.assertEqual(list(worths), sorted(worths))
                    self.assertEqual([(x, worths[x][1]) for x in worths if worths[x] != ("lost",)], list(variables))
                    lost += list(worths.values()).count(("lost",))
                session.forth(rng.randint(1, 4))
        self.assertGreater(lost, 20)


class Moving(unittest.TestCase):
    def test_back_over_a_move(self):
        for codes in BOTH:
            session = Session(codes, "f", [2])
            session.to_events(12)
            at = session.at()
            state = session.state()
            self.assertEqual(session.reached(), reached_of(codes, state))
            addresses = [number + 40 for number in range(len(session.reached()))]
            self.assertIsNone(session.move(addresses))
            self.assertEqual((session.at(), session.state()), (at, collected(codes, state, addresses)))
            self.assertEqual(session.back(0), 0)
            self.assertEqual(session.state(), collected(codes, state, addresses))
            self.assertEqual((session.forth(3), session.back(3)), (3, 3))
            self.assertEqual(session.state(), collected(codes, state, addresses))
            self.assertEqual((session.back(1), session.forth(1)), (1, 1))
            self.assertEqual(session.state(), state)

    def test_runs_with_moves(self):
        rng = random.Random(8)
        for program, runner, name, arguments, _ in levels(rng, 5):
            session, other = Session(runner, name, arguments), Session(runner, name, arguments)
            for _ in range(30):
                if rng.random() < 0.5:
                    session.move(rng.sample(range(1, 90), len(session.reached())))
                if rng.random() < 0.3:
                    many = rng.randint(0, 20)
                    self.assertEqual(session.back(many), other.back(many))
                many = rng.randint(0, 6)
                self.assertEqual(session.forth(many), other.forth(many))
                self.assertTrue(alike_states(runner, session.state(), other.state()))
                self.assertEqual((session.at(), session.events(), session.outputs()), (other.at(), other.events(), other.outputs()))
                self.assertEqual(session.end(), other.end())
                if session.end() == ("cut",):
                    self.assertEqual(session.moment(), other.moment())

    def test_at_the_end(self):
        for codes in BOTH:
            session = Session(codes, "h", [3])
            session.forth(99)
            end = session.end()
            self.assertEqual(end, ("returned", ("w", (1, ("v", ()))), ()))
            self.assertEqual(session.reached(), [])
            session.move([])
            self.assertEqual(session.end(), end)
            self.assertRaises(BadAddresses, session.move, [1])


def last_other_by_hand(session, depth, name):
    """By the words of the point; the session is led back."""
    def alone():
        told = session.told()
        if depth >= len(told):
            return "gone"
        function, point, variables = session.moment()[0][depth]
        if name not in dict(variables):
            return None
        rows = session.moment()[1]
        return narrowed_picture(dict(variables)[name], rows)

    present, first = alone(), session.at()
    while session.at() > 0:
        session.back(1)
        found = alone()
        if found == "gone":
            break
        if found is not None and found != present:
            return session.at()
    session.forth(first - session.at())
    return None


def narrowed_picture(picture, rows):
    """A picture with the items of the rows in it in their place, each row once."""
    met = []

    def told(part):
        if isinstance(part, tuple) and part[0] == "row":
            if part[1] in met:
                return "row", met.index(part[1])
            met.append(part[1])
            return "row", met.index(part[1]), tuple(told(item) for item in rows[part[1]][1])
        return (part[0], tuple(told(inner) for inner in part[1])) if isinstance(part, tuple) else part

    return told(picture)


class LastOther(unittest.TestCase):
    def test_by_hand(self):
        for codes in BOTH:
            session = Session(codes, "f", [2])
            session.to_events(12)
            self.assertEqual(session.told()[0][:2], ("f", 3))
            before = session.told()[0][2]["a"]
            at = session.at()
            found = session.last_other(0, "a")
            self.assertEqual(found, session.at())
            self.assertEqual(found, at - 1)
            self.assertEqual((before[0], session.told()[0][2]["a"]), ("is", ("is", before[1] + 1)))
            self.assertIsNone(session.last_other(0, "n"))
            self.assertEqual(session.at(), found)

    def test_lost_between(self):
        session = Session(PLACED, "f", [2])
        session.to_events(20)
        self.assertEqual(session.told()[0][2]["a"], ("lost",))
        self.assertRaises(NotTold, session.last_other, 0, "a")
        session.to_events(22)
        self.assertEqual(session.told()[0][2]["a"], ("is", 2))
        self.assertIsNotNone(session.last_other(0, "a"))
        self.assertEqual((session.told()[0][:2], session.told()[0][2]["a"]), (("f", 6), ("is", 0)))

    def test_a_frame_that_is_entered_anew(self):
        for codes in BOTH:
            session = Session(codes, "f", [1])
            # The second call of g: m was another one in the first call, which is another frame.
            while len(session.told()) < 2:
                session.forth(1)
            first = dict(session.told()[1][2])
            while len(session.told()) > 1:
                session.forth(1)
            while len(session.told()) < 2:
                session.forth(1)
            self.assertNotEqual(session.told()[1][2]["m"], first["m"])
            at = session.at()
            self.assertIsNone(session.last_other(1, "m"))
            self.assertEqual(session.at(), at)

    def test_random(self):
        rng = random.Random(12)
        found, none = 0, 0
        for program, runner, name, arguments, _ in levels(rng, 3):
            session, other = Session(runner, name, arguments), Session(runner, name, arguments)
            for _ in range(10):
                many = rng.randint(1, 25)
                session.forth(many)
                other.forth(many)
                if session.end() != ("cut",):
                    break
                told = session.told()
                names = [(depth, x) for depth, frame in enumerate(told) for x in frame[2] if frame[2][x] != ("lost",)]
                if rng.random() < 0.5:
                    session.move(rng.sample(range(1, 99), len(session.reached())))
                if names:
                    depth, x = rng.choice(names)
                    wanted = last_other_by_hand(other, depth, x)
                    self.assertEqual(session.last_other(depth, x), wanted)
                    self.assertEqual(session.at(), other.at())
                    self.assertTrue(alike_states(runner, session.state(), other.state()))
                    found, none = found + (wanted is not None), none + (wanted is None)
        self.assertGreater(min(found, none), 5)

    def test_back_over_a_move(self):
        for codes in BOTH:
            session = Session(codes, "f", [2])
            session.to_events(15)
            states = {}
            other = Session(codes, "f", [2])
            for at in range(session.at() + 1):
                states[at] = other.state()
                other.forth(1)
            for _ in range(3):
                session.move([number + 9 for number in range(len(session.reached()))])
                session.forth(1)
            at = session.last_other(0, "a")
            self.assertIsNotNone(at)
            self.assertTrue(alike_states(codes, session.state(), states[at]) if at in states else True)


class WrongInputs(unittest.TestCase):
    def test_begin(self):
        for thing in odd_values():
            self.assertRaises(BadWalk, Session, thing, 0, 0)
            self.assertRaises(BadWalk, led, thing, 0, 0, -1)
            self.assertRaises(NoFunction, Session, NAMED, thing, 0)
            self.assertRaises(NoFunction, led, NAMED, thing, 0, -1)
            self.assertRaises(BadArguments, Session, NAMED, "f", thing) if thing not in ([0], (0,)) else None
        for thing in ([], [1, 2], ["1"], [None], {0: 1}, 1):
            self.assertRaises(BadArguments, Session, NAMED, "f", thing)
            self.assertRaises(BadArguments, led, NAMED, "f", thing, -1)
        self.assertEqual(Session(NAMED, "f", (True,)).state(), Session(NAMED, "f", [1]).state())
        for thing in [-1, 20001, True, None, "1", [1], (1,)]:
            with self.assertRaises(BadMost):
                led(NAMED, "f", [1], thing)

    def test_methods(self):
        session = Session(PLACED, "f", [2])
        session.forth(20)
        state = session.state()
        for thing in [-1, 20001, True, False, None, "1", [1], (1,), {}]:
            for method in (session.forth, session.back, session.to_events):
                self.assertRaises(BadMost, method, thing)
        for thing in odd_values() + [[0], [1, 1], [True], [10 ** 9 + 1]]:
            if not isinstance(thing, (list, tuple)) or len(thing) != len(session.reached()):
                self.assertRaises(BadAddresses, session.move, thing)
        for thing in odd_values() + [len(session.told())]:
            if thing is True or thing is False or not isinstance(thing, int) or not 0 <= thing < len(session.told()):
                self.assertRaises(BadDepth, session.last_other, thing, 0)
        for thing in [thing for thing in odd_values() if thing != "a"] + ["zz", "m" * 3]:
            with self.assertRaises(NotTold) as caught:
                session.last_other(0, thing)
            self.assertIs(caught.exception.name, thing)
        self.assertEqual(session.state(), state)
        session.forth(900)
        self.assertRaises(BadDepth, session.last_other, 0, "a")
        lost = Session(PLACED, "f", [2])
        while ("lost",) not in lost.told()[0][2].values():
            lost.forth(1)
        name = [x for x, told in lost.told()[0][2].items() if told == ("lost",)][0]
        self.assertRaises(NotTold, lost.last_other, 0, name)


if __name__ == "__main__":
    unittest.main()
