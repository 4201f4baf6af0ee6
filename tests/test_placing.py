"""Points 76 to 78: placings, what is found where, and placed code with its paper."""

import random
import unittest

from code_tools import context, kinds_and_codes, numbers_code, sound_programs, starts_of
from odd_values import changed, odd_values
from random_codes import random_code
from stopanywhere.colours import most
from stopanywhere.errors import BadPlace, BadPlaces, BadRegisters, BadSpot
from stopanywhere.forms import Scope, is_named, is_placed, scope_of_codes
from stopanywhere.judge import judge
from stopanywhere.moves import openings
from stopanywhere.passes import lean
from stopanywhere.placing import found, is_placing, lost_way, placed, placed_code, placing
from stopanywhere.plain import fits, told_run
from stopanywhere.runner import Codes
from stopanywhere.sessions import led
from stopanywhere.spills import slots
from stopanywhere.wanted import alive, carried

KINDS = [("choice", "c", (("v", ()), ("w", ("number", "c")))), ("row", "r", "c")]
SCOPE = Scope(KINDS, {"f": (("number", "number"), "number"), "g": (("number", "number"), "number")})
# All sorts of rows; which of its places lie where is told by PLACES.
SORTS = ("f", "number", {
    0: ((("v0", "number"), ("v1", "number")), (
        context("mark", ("f", 0, {"a": "v0", "b": ("number", ("of", "v1", -1, 3)), "c": ("number", ("is", 7))})),
        ("v2", "const", 3), ("v3", "plus", "v0", "v0"), ("v4", "minus", "v3", "v0"), ("v5", "copy", "v0"), ("v6", "copy", "v4"),
        ("v7", "make", "v", ()), ("v8", "make", "w", ("v0", "v7")), ("v9", "new", "r", "v2", "v8"),
        (None, "put", "r", "v9", "v2", "v8"), ("v10", "at", "r", "v9", "v0"), ("v11", "tag", "v10"), ("v12", "part", "w", 0, "v10"),
        ("v13", "long", "r", "v9"), ("v14", "not", "v13"), (None, "show", "v14"), (None, "show", "v1"), ("v15", "rest", "v12", "v11"),
        ("v16", "call", "g", ("v15", "v0")), (None, "put", "r", "v9", "v16", "v10"),
        context("back", ("f", 1, {"a": "v0", "b": ("c", ("make", "w", (("of", "v16", 1, 0), ("of", "v8", 1, 0)))),
                                  "c": ("c", ("make", "w", (("of", "v0", 1, 0), ("of", "v7", 1, 0)))), "d": "v5"})),
    ), ("branch", "v0", 4, 6)),
    4: ((), (context("still", ("f", 2, {"a": "v0", "b": "v16"})),), ("try", "g", ("v0", "v1"), 7, 8)),
    6: ((), (context("still", ("f", 3, {})),), ("fail", "v16")),
    7: ((("v17", "number"),), (context("mark", ("f", 4, {"a": "v17", "b": "v0"})),), ("jump", 9, ("v0", "v17"))),
    8: ((("v18", "number"),), (context("mark", ("f", 5, {"a": "v18"})),), ("return", "v18")),
    9: ((("v19", "number"), ("v20", "number")), (context("mark", ("f", 6, {"a": "v19", "b": "v20"})),
                                               ("v21", "less", "v19", "v20")), ("jump", 9, ("v20", "v19"))),
})
PLACES = {
    "v0": "s0", "v1": "s1", "v2": "r0", "v3": "s2", "v4": "r1", "v5": "s3", "v6": "r2", "v7": "r1", "v8": "s4", "v9": "s5",
    "v10": "s6", "v11": "r1", "v12": "r2", "v13": "r0", "v14": "r0", "v15": "r0", "v16": "r1", "v17": "r0", "v18": "s2",
    "v19": "r0", "v20": "r1", "v21": "r2",
}


def contents_at(code, places, place):
    """By a search of its own: by spots the pairs of whether a place lies where it was put, and a way there.

    Of each the first way is a shortest one.
    """
    _, _, blocks = code
    where = places[place]
    found_at = {(number, at): [] for number in blocks for at in range(len(blocks[number][1]) + 1)}

    def behind(held, row):
        held = None if row[1] == "call" and where[0] == "r" else held
        return row[0] if row[0] and places[row[0]] == where else held

    def given(held, parameters):
        return next((other for other, _ in parameters if places[other] == where), held)

    coming, met = [(0, given(None, blocks[0][0]), [0])], set()
    for number, held, way in coming:
        if (number, held) in met:
            continue
        met.add((number, held))
        _, rows, end = blocks[number]
        for at, row in enumerate(rows):
            found_at[(number, at)].append((held == place, way))
            held = behind(held, row)
        found_at[(number, len(rows))].append((held == place, way))
        others = {"jump": end[1:2], "branch": end[2:], "try": end[3:]}.get(end[0], ())
        held = None if end[0] == "try" and where[0] == "r" else held
        for other in others:
            coming.append((other, given(held, blocks[other][0]), way + [other]))
    return found_at


def order(place):
    return "vrs".index(place[0]), int(place[1:])


def bent_placings(rng, code, registers, told):
    """Placings that may be right or not: places exchanged, moved to other slots, put into slots."""
    for _ in range(6):
        other = dict(told)
        for _ in range(rng.randint(1, 3)):
            place = rng.choice(list(other))
            pool = sorted(set(told.values())) + ["s7", "s30", "r0", "r1", "r2"]
            other[place] = rng.choice(pool)
        yield other
    registers_told = [f"r{at}" for at in range(registers - 3)]
    turned = registers_told[1:] + registers_told[:1]
    yield {place: dict(zip(registers_told, turned)).get(held, held) for place, held in told.items()}
    yield {place: f"s{at}" for at, place in enumerate(told)}


def random_codes_with_scopes(seed, many):
    rng = random.Random(seed)
    for _ in range(many):
        code, taken = random_code(rng)
        yield rng, code, Scope([], {"f": (("number",) * taken, "number")}), taken


class Placings(unittest.TestCase):
    def check(self, code, registers):
        told = placing(code, registers)
        self.assertEqual(list(told), sorted(told, key=order))
        self.assertTrue(is_placing(code, registers, told))
        spilled = slots(code, registers - 3)
        self.assertEqual({place for place in told if told[place][0] == "s"}, set(spilled))
        for sort, others in (("r", list(spilled)), ("s", [place for place in told if place not in spilled])):
            taken = {held for held in told.values() if held[0] == sort}
            many = most(code, others)[0] if len(others) < len(told) else 0
            self.assertEqual(taken, {f"{sort}{at}" for at in range(many)})
        for lists in alive(code).values():
            for places in lists:
                self.assertEqual(len({told[place] for place in places}), len(places))
        return told

    def test_random_codes(self):
        for _, code, _, _ in random_codes_with_scopes(1, 25):
            for registers in (6, 7, 8, 9):
                self.check(code, registers)

    def test_programs(self):
        rng = random.Random(2)
        for program in sound_programs(rng, 5):
            for code in kinds_and_codes(program)[1].values():
                for registers in (6, 9):
                    self.check(code, registers)

    def test_is_placing(self):
        rights = 0
        for rng, code, _, _ in random_codes_with_scopes(3, 25):
            registers = rng.randint(6, 9)
            for told in bent_placings(rng, code, registers, placing(code, registers)):
                is_right = all(told[place][0] == "s" for place in carried(code))
                is_right = is_right and all(h[0] == "s" or int(h[1:]) < registers - 3 for h in told.values())
                for lists in alive(code).values():
                    is_right = is_right and all(len({told[p] for p in places}) == len(places) for places in lists)
                self.assertIs(is_placing(code, registers, told), is_right)
                rights += is_right
        self.assertGreater(rights, 40)

    def test_is_placing_of_any_value(self):
        code = numbers_code("f", {0: (["v0"], [("v1", "plus", "v0", "v0")], ("return", "v1"))})
        told = {"v0": "r0", "v1": "r2"}
        self.assertIs(is_placing(code, 6, told), True)
        self.assertTrue(is_placing(code, 6, {"v1": "s999", "v0": "s0"}))
        for wrong in ("r3", "r8", "s1000", "v0", "r00", "s01", "", None, 0, (), [], {}, True):
            self.assertIs(is_placing(code, 6, {**told, "v1": wrong}), False, wrong)
        self.assertTrue(is_placing(code, 9, {**told, "v1": "r5"}))
        self.assertFalse(is_placing(code, 8, {**told, "v1": "r5"}))
        for wrong in ({"v0": "r0"}, {**told, "v2": "r1"}, {**told, 0: "r1"}, {"v0": "r0", "v2": "r2"}, [("v0", "r0")]):
            self.assertFalse(is_placing(code, 6, wrong))
        others = [thing for thing in odd_values() if thing != "r0"]
        for thing in odd_values() + list(changed(told, lambda part: others if isinstance(part, str) else [])):
            self.assertIs(is_placing(code, 6, thing), False, thing)
        # Two places that are not alive at one spot may lie in one.
        self.assertTrue(is_placing(code, 6, {"v0": "r1", "v1": "r1"}))


class Found(unittest.TestCase):
    def check(self, rng, code, registers, places):
        told = found(code, registers, places)
        self.assertEqual(list(told), sorted(code[2]))
        lost = 0
        for place in places:
            for (number, at), ways in contents_at(code, places, place).items():
                is_found = all(is_there for is_there, _ in ways)
                self.assertIs(place in told[number][at], is_found)
                if rng.random() > 0.02:
                    continue
                way = lost_way(code, registers, places, (number, at), place)
                if is_found:
                    self.assertIsNone(way)
                    continue
                lost += 1
                short = min(len(blocks) for is_there, blocks in ways if not is_there)
                self.assertEqual((len(way), way[0], way[-1]), (short, 0, number))
                self.check_way(code, places, way, at, place)
        self.assertTrue(all(here == sorted(here, key=order) for lists in told.values() for here in lists))
        self.assertEqual([len(lists) for lists in told.values()], [len(code[2][n][1]) + 1 for n in told])
        return lost

    def check_way(self, code, places, way, at, place):
        """Whether a place is not found behind this way."""
        is_there = False
        for step, number in enumerate(way):
            parameters, rows, end = code[2][number]
            if step:
                self.assertIn(number, code[2][way[step - 1]][2])
            events = [given for given, _ in parameters]
            for row in rows if step < len(way) - 1 else rows[:at]:
                events.extend((["call"] if row[1] == "call" else []) + ([row[0]] if row[0] else []))
            if step < len(way) - 1 and end[0] == "try":
                events.append("call")
            for event in events:
                if event == "call":
                    is_there = is_there and places[place][0] == "s"
                elif places[event] == places[place]:
                    is_there = event == place
        self.assertFalse(is_there)

    def test_random_codes(self):
        lost = 0
        for rng, code, _, _ in random_codes_with_scopes(5, 6):
            registers = rng.randint(6, 9)
            for places in [placing(code, registers), *bent_placings(rng, code, registers, placing(code, registers))]:
                if is_placing(code, registers, places):
                    lost += self.check(rng, code, registers, places)
        self.assertGreater(lost, 40)

    def test_all_sorts(self):
        self.assertTrue(is_named(SORTS, SCOPE))
        self.assertTrue(is_placing(SORTS, 6, PLACES))
        self.check(random.Random(6), SORTS, 6, PLACES)

    def test_by_hand(self):
        code = numbers_code("f", {
            0: (["v0"], [("v1", "const", 1), ("v2", "call", "f", ("v1",)), ("v3", "copy", "v0")], ("branch", "v2", 1, 2)),
            1: ([], [], ("jump", 3, ("v3",))), 2: ([], [("v4", "const", 5)], ("jump", 3, ("v4",))),
            3: (["v5"], [], ("return", "v5")),
        })
        places = {"v0": "s0", "v1": "r0", "v2": "r1", "v3": "r0", "v4": "r0", "v5": "r0"}
        self.assertEqual(found(code, 6, places), {
            0: [["v0"], ["v0"], ["v0", "v1"], ["v0", "v2"], ["v0", "v2", "v3"]], 1: [["v0", "v2", "v3"]] * 2,
            2: [["v0", "v2", "v3"], ["v0", "v2", "v3"], ["v0", "v2", "v4"]], 3: [["v0", "v2", "v5"]] * 2,
        })
        self.assertEqual(lost_way(code, 6, places, (0, 3), "v1"), [0])
        self.assertEqual(lost_way(code, 6, places, (0, 0), "v1"), [0])
        self.assertIsNone(lost_way(code, 6, places, (2, 1), "v3"))
        self.assertEqual(lost_way(code, 6, places, (2, 2), "v3"), [0, 2])
        self.assertIn(lost_way(code, 6, places, (3, 0), "v3"), ([0, 1, 3], [0, 2, 3]))


class PlacedCode(unittest.TestCase):
    def test_all_sorts_by_hand(self):
        code, paper = placed(SORTS, 6, PLACES)
        name, result, blocks = code
        self.assertEqual((name, result, list(blocks)), ("f", "number", [0, 4, 6, 7, 8, 9]))
        rows = [
            context("mark", ("f", 0, {"a": "r0", "b": ("number", ("of", "r1", -1, 3)), "c": ("number", ("is", 7))})),
            ("s0", "copy", "r0"), ("s1", "copy", "r1"), ("r0", "const", 3),
            ("r3", "copy", "s0"), ("r3", "plus", "r3", "r3"), ("s2", "copy", "r3"),
            ("r3", "copy", "s2"), ("r4", "copy", "s0"), ("r1", "minus", "r3", "r4"),
            ("r3", "copy", "s0"), ("s3", "copy", "r3"), ("r2", "copy", "r1"), ("r1", "make", "v", ()),
            ("r3", "copy", "s0"), ("r3", "make", "w", ("r3", "r1")), ("s4", "copy", "r3"),
            ("r3", "copy", "s4"), ("r3", "new", "r", "r0", "r3"), ("s5", "copy", "r3"),
            ("r3", "copy", "s5"), ("r4", "copy", "s4"), (None, "put", "r", "r3", "r0", "r4"),
            ("r3", "copy", "s5"), ("r4", "copy", "s0"), ("r3", "at", "r", "r3", "r4"), ("s6", "copy", "r3"),
            ("r3", "copy", "s6"), ("r1", "tag", "r3"), ("r3", "copy", "s6"), ("r2", "part", "w", 0, "r3"),
            ("r3", "copy", "s5"), ("r0", "long", "r", "r3"), ("r0", "not", "r0"), (None, "show", "r0"),
            ("r3", "copy", "s1"), (None, "show", "r3"), ("r0", "rest", "r2", "r1"),
            ("r1", "copy", "s0"), ("r0", "call", "g", ("r0", "r1")), ("r1", "copy", "r0"),
            ("r3", "copy", "s5"), ("r4", "copy", "s6"), (None, "put", "r", "r3", "r1", "r4"),
            context("back", ("f", 1, {"a": "s0", "b": ("c", ("make", "w", (("of", "r1", 1, 0), ("of", "s4", 1, 0)))),
                                      "c": ("c", ("lost",)), "d": "s3"})),
            ("r3", "copy", "s0"),
        ]
        self.assertEqual(blocks[0], ((("r0", "number"), ("r1", "number")), tuple(rows), ("branch", "r3", 4, 6)))
        self.assertEqual(blocks[4], ((), (context("still", ("f", 2, {"a": "s0", "b": "r1"})), ("r0", "copy", "s0"), ("r1", "copy", "s1")),
                                     ("try", "g", ("r0", "r1"), 7, 8)))
        self.assertEqual(blocks[6], ((), (context("still", ("f", 3, {})),), ("fail", "r1")))
        self.assertEqual(blocks[7], ((("r0", "number"),), (context("mark", ("f", 4, {"a": "r0", "b": "s0"})), ("r1", "copy", "r0"),
                                                            ("r0", "copy", "s0")), ("jump", 9, ())))
        self.assertEqual(blocks[8], ((("r0", "number"),), (context("mark", ("f", 5, {"a": "r0"})), ("s2", "copy", "r0"), ("r0", "copy", "s2")),
                                     ("return", "r0")))
        self.assertEqual(blocks[9][0], ())
        self.assertEqual(blocks[9][1][:2], (context("mark", ("f", 6, {"a": "r0", "b": "r1"})), ("r2", "less", "r0", "r1")))
        self.assertEqual((len(blocks[9][1]), blocks[9][2]), (5, ("jump", 9, ())))
        self.assertTrue(is_placed(code, SCOPE, 6))
        self.check_paper(SORTS, 6, PLACES, paper)
        self.assertEqual(paper[0], ((("f", 0, 0, {"v0": ("of", "r0", 1, 0), "v1": ("of", "r1", 1, 0)}),), (), False))
        self.assertIsNone(judge(SCOPE, {"f": SORTS}, code, paper))

    def check_paper(self, code, registers, places, paper):
        told = found(code, registers, places)
        self.assertEqual(list(paper), sorted(code[2]))
        for number, (anchor, facts, late) in paper.items():
            self.assertEqual((facts, late, len(anchor)), ((), False, 1))
            self.assertEqual(anchor[0][:3], (code[0], number, 0))
            equations = {place: ("of", places[place], 1, 0) for place in told[number][0]}
            tried = [end[3:] for _, _, end in code[2].values() if end[0] == "try"]
            if number == 0 or any(number in others for others in tried):
                equations.update((place, ("of", f"r{at}", 1, 0)) for at, (place, _) in enumerate(code[2][number][0]))
            self.assertEqual(anchor[0][3], equations)
            self.assertEqual(list(anchor[0][3]), sorted(equations))

    def check_lost(self, code, new, told):
        """Whether a variable is lost just where it was, or a way loses one of its places."""
        for number, (_, rows, _) in code[2].items():
            others = [row for row in new[2][number][1] if row[1] in ("mark", "back", "still")]
            mine = [(at, row) for at, row in enumerate(rows) if row[1] in ("mark", "back", "still")]
            self.assertEqual(len(others), len(mine))
            for (at, row), other in zip(mine, others):
                self.assertEqual(row[1], other[1])
                for frame, other_frame in zip(row[2], other[2]):
                    self.assertEqual(frame[:2], other_frame[:2])
                    for (name, kind, formula), (other_name, other_kind, other_formula) in zip(frame[2], other_frame[2]):
                        self.assertEqual((name, kind), (other_name, other_kind))
                        is_lost = formula == ("lost",) or any(place not in told[number][at] for place in places_of(formula))
                        self.assertEqual(other_formula == ("lost",), is_lost)

    def check_many_rows(self, code, new, places):
        """How many rows there are is told by the code, the places and the moves."""
        def cost(pairs):
            return len([pair for pair in pairs if pair[0] != pair[1]]) + len(openings(pairs))

        tried = [number for _, _, end in code[2].values() if end[0] == "try" for number in end[3:]]
        for number, (parameters, rows, end) in code[2].items():
            many = 0
            if number == 0 or number in tried:
                many += cost([(places[place], f"r{at}") for at, (place, _) in enumerate(parameters)])
            for row in rows:
                parts = [part for part in row[2:] if isinstance(part, str) and part in places]
                parts += [part for told in row[2:] if isinstance(told, tuple) and row[0] for part in told]
                if row[1] == "copy":
                    many += cost([(places[row[0]], places[row[2]])])
                elif row[1] == "call":
                    many += cost([(f"r{at}", places[place]) for at, place in enumerate(row[3])]) + 1 + cost([(places[row[0]], "r0")])
                else:
                    many += 1 + len({part for part in parts if places[part][0] == "s"})
                    many += row[0] is not None and places[row[0]][0] == "s"
            if end[0] == "jump":
                many += cost([(places[p], places[a]) for (p, _), a in zip(code[2][end[1]][0], end[2])])
            elif end[0] in ("return", "try"):
                many += cost([(f"r{at}", places[place]) for at, place in enumerate(end[2] if end[0] == "try" else end[1:])])
            else:
                many += places[end[1]][0] == "s"
            self.assertEqual(len(new[2][number][1]), many)

    def test_random_codes(self):
        for rng, code, scope, taken in random_codes_with_scopes(7, 30):
            registers = rng.randint(6, 9)
            told = placing(code, registers)
            for places in [told, *bent_placings(rng, code, registers, told)]:
                if is_placing(code, registers, places):
                    new, paper = placed(code, registers, places)
                    self.assertTrue(is_placed(new, scope, registers))
                    self.check_paper(code, registers, places, paper)
                    self.check_lost(code, new, found(code, registers, places))
                    self.check_many_rows(code, new, places)
                    self.assertIsNone(judge(scope, {"f": code}, new, paper))
                    self.check_runs(code, new, [rng.randint(-2, 3) for _ in range(taken)])
            self.assertEqual(placed_code(code, registers), placed(code, registers, told))

    def check_runs(self, code, new, arguments):
        """Whether both codes do the same, event by event, as far as both are led.

        Stills of random codes tell of anything, and are come to by unlike many rows: these are left out.
        """
        code, new = [(told[0], told[1], {number: without_stills(block) for number, block in told[2].items()}) for told in (code, new)]
        outputs, end, moments = led(Codes([], [code]), "f", arguments, 150)
        other_outputs, other_end, other_moments = led(Codes([], [new]), "f", arguments, 600)
        self.assertEqual(other_outputs[:len(outputs)], outputs)
        if end != ("cut",) and other_end != ("cut",):
            self.assertEqual(end, other_end)
        for event, moment in moments.items():
            if event in other_moments:
                self.assertTrue(fits(other_moments[event], moment))

    def test_programs(self):
        rng = random.Random(8)
        ends = 0
        for program in sound_programs(rng, 8):
            kinds, codes = kinds_and_codes(program)
            scope = scope_of_codes(kinds, list(codes.values()))
            for level in (codes, lean(scope, codes)[0]):
                for registers in (6, 8):
                    made = {name: placed_code(level[name], registers) for name in level}
                    for name in level:
                        self.assertIsNone(judge(scope, level, *made[name]))
                    runner = Codes(kinds, [code for code, _ in made.values()])
                    for name, arguments in starts_of(program, rng):
                        outputs, end, moments = told_run(program, name, arguments, 150)
                        placed_outputs, placed_end, placed_moments = led(runner, name, arguments, 500)
                        self.assertEqual(placed_outputs[:len(outputs)], outputs[:len(placed_outputs)])
                        if ("cut",) not in (end, placed_end):
                            self.assertEqual(end, placed_end)
                            ends += 1
                        for event, moment in placed_moments.items():
                            if 0 < event <= len(moments):
                                self.assertTrue(fits(moment, moments[event - 1]))
        self.assertGreater(ends, 50)

    def test_helpers_of_moves(self):
        # Two slots are exchanged over the first two helpers.
        code = numbers_code("f", {
            0: (["v0"], [("v1", "plus", "v0", "v0")], ("jump", 1, ("v0", "v1"))), 1: (["v2", "v3"], [(None, "show", "v2")], ("jump", 1, ("v3", "v2"))),
        })
        for registers in (6, 7, 8, 9):
            new, _ = placed(code, registers, {"v0": "r0", "v1": "r1", "v2": "s0", "v3": "s1"})
            helpers = [f"r{registers - 3}", f"r{registers - 2}"]
            rows = new[2][1][1][-4:]
            self.assertEqual({row[0] for row in rows}, {*helpers, "s0", "s1"})
            self.assertEqual({row[2] for row in rows}, {*helpers, "s0", "s1"})

    def test_many_parameters(self):
        # More places than the moves of one point take are moved at a jump.
        places = [f"v{at}" for at in range(1, 81)]
        code = numbers_code("f", {
            0: (["v0"], [(f"v{at + 200}", "plus", "v0", "v0") for at in range(80)], ("jump", 1, tuple(f"v{at + 200}" for at in range(80)))),
            1: (places, [(f"v{at + 300}", "plus", f"v{at}", "v1") for at in range(1, 81)], ("jump", 1, tuple(places[1:] + places[:1]))),
        })
        scope = Scope([], {"f": (("number",), "number")})
        new, paper = placed_code(code, 6)
        self.assertTrue(is_placed(new, scope, 6))
        self.assertIsNone(judge(scope, {"f": code}, new, paper))


def without_stills(block):
    parameters, rows, end = block
    return parameters, tuple(row for row in rows if row[1] != "still"), end


def places_of(formula):
    if formula[0] == "of":
        return [formula[1]]
    return [place for part in formula[2] for place in places_of(part)] if formula[0] == "make" else []


class WrongInputs(unittest.TestCase):
    def test_registers(self):
        for wrong in [5, 10, -6, True, None, "6", (6,), [6], 6 * 10 ** 12]:
            for call in (
                lambda: placing(SORTS, wrong), lambda: is_placing(SORTS, wrong, PLACES), lambda: found(SORTS, wrong, 0),
                lambda: lost_way(SORTS, wrong, 0, 0, 0), lambda: placed(SORTS, wrong, 0), lambda: placed_code(SORTS, wrong),
            ):
                self.assertRaises(BadRegisters, call)

    def test_places(self):
        for wrong in odd_values() + [{**PLACES, "v0": "r0"}, {**PLACES, "v3": "s0"}, {**PLACES, "v2": "r3"}]:
            self.assertRaises(BadPlaces, found, SORTS, 6, wrong)
            self.assertRaises(BadPlaces, lost_way, SORTS, 6, wrong, 0, 0)
            self.assertRaises(BadPlaces, placed, SORTS, 6, wrong)

    def test_spot_and_place(self):
        for wrong in odd_values() + [(1, 0), (0, 99), (0, -1), (True, 0), (0, True), [0, 0], (0, 0, 0), (0,)]:
            self.assertRaises(BadSpot, lost_way, SORTS, 6, PLACES, wrong, 0)
        for wrong in odd_values() + ["v22", "r0", "s0", "v00"]:
            if wrong != "v0":
                self.assertRaises(BadPlace, lost_way, SORTS, 6, PLACES, (0, 0), wrong)


if __name__ == "__main__":
    unittest.main()
