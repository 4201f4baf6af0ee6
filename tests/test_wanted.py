"""Points 70 and 71: wanted, alive and carried places, asked of all ways through small codes, named and placed."""

import random
import unittest

from code_tools import kinds_and_codes, numbers_code, sound_programs
from naive_placing import placed_of
from odd_values import odd_values
from random_codes import random_code
from stopanywhere.errors import BadPlace, BadSpot
from stopanywhere.wanted import alive, carried, wanted, way_to
from test_forms import NAMED, PLACED
from test_roads import leads
from test_runner import PlacedCode


def is_place(thing):
    return isinstance(thing, str) and thing[:1] in ("v", "r", "s") and thing[1:].isdigit()


def read_by(parts):
    return {part for thing in parts for part in (thing if isinstance(thing, tuple) else (thing,)) if is_place(part)}


def row_reads(row):
    return set() if row[1] in ("mark", "back", "still") else read_by(row[2:])


def order(place):
    return "vrs".index(place[0]), int(place[1:])


def is_forgotten(place, word):
    """Whether a call or a try forgets a place."""
    return word in ("call", "try") and place[0] == "r"


def blocks_to_reading(code, spot, place):
    """The least number of blocks of a way from a spot to where a place is read, None if there is none; spot by spot."""
    blocks = code[2]
    coming = {spot: 1}
    queue = [spot]
    for number, index in queue:
        _, rows, end = blocks[number]
        many = coming[number, index]
        if index < len(rows):
            row = rows[index]
            if place in row_reads(row):
                return many
            if row[0] != place and not is_forgotten(place, row[1]) and (number, index + 1) not in coming:
                # A step within a block stands ahead of all steps to further blocks.
                coming[number, index + 1] = many
                queue.insert(queue.index((number, index)) + 1, (number, index + 1))
        elif place in read_by(end[1:]):
            return many
        elif not is_forgotten(place, end[0]):
            for other in leads(end):
                if place not in [given for given, _ in blocks[other][0]] and (other, 0) not in coming:
                    coming[other, 0] = many + 1
                    queue.append((other, 0))
    return None


def spots(code):
    return [(number, index) for number, block in sorted(code[2].items()) for index in range(len(block[1]) + 1)]


def places_of(code):
    given = [place for parameters, rows, _ in code[2].values() for place in [p for p, _ in parameters] + [r[0] for r in rows]]
    return sorted({place for place in given if place is not None}, key=order)


def some_codes(rng, many):
    """Named and placed codes of all sorts."""
    found = [NAMED, PLACED, *PlacedCode.CODES]
    for _ in range(many):
        code, _ = random_code(rng)
        found.extend([code, placed_of(code)])
    for program in sound_programs(rng, many // 3):
        codes = list(kinds_and_codes(program)[1].values())
        found.extend([code for code in codes] + [placed_of(code) for code in codes[:1]])
    return [code for code in found if len(spots(code)) < 130]


EXAMPLE = numbers_code("f", {0: (["v0"], [("v1", "plus", "v0", "v0"), ("v2", "times", "v1", "v0")], ("return", "v2"))})


class Wanted(unittest.TestCase):
    def test_the_example(self):
        self.assertEqual(wanted(code=EXAMPLE), {0: [["v0"], ["v0"], ["v0", "v1"], ["v2"]]})
        self.assertEqual(alive(code=EXAMPLE), {0: [["v0"], ["v0"], ["v0", "v1"], ["v2"]]})
        self.assertEqual(carried(code=EXAMPLE), {})

    def test_by_hand(self):
        found = wanted(PlacedCode.CODES[0])
        # The call reads r0 and forgets all registers; the try too.
        self.assertEqual(found[0], [["r0"], ["r0"], ["r0", "s3"], ["r0", "s3"], ["r0", "s3"], ["r0", "r1"], ["r0"]])
        self.assertEqual(found[1], [["r0"], ["r0"], [], ["r0"]])
        self.assertEqual(found[3], [["r0"], ["r0"]])
        code = numbers_code("f", {
            0: (["v0", "v1"], [("v2", "const", 1)], ("jump", 4, ("v0", "v2"))), 4: (["v10", "v3"], [], ("branch", "v10", 7, 5)),
            7: ([], [("v4", "minus", "v10", "v2")], ("jump", 4, ("v4", "v4"))), 5: ([], [], ("try", "f", ("v1", "v3"), 8, 9)),
            8: (["v5"], [], ("return", "v5")), 9: (["v6"], [], ("fail", "v1")),
        })
        self.assertEqual(wanted(code), {
            0: [["v0", "v1"], ["v0", "v1"], ["v0", "v1", "v2"]], 4: [["v1", "v2", "v3", "v10"]] * 2, 5: [["v1", "v3"]] * 2,
            7: [["v1", "v2", "v10"], ["v1", "v2", "v10"], ["v1", "v2", "v4"]], 8: [["v5"]] * 2, 9: [["v1"]] * 2,
        })
        self.assertEqual(carried(code), {"v1": (5, 1)})
        self.assertEqual(alive(code)[9], [["v1", "v6"], ["v1"]])

    def test_calls_and_tries_forget_registers(self):
        # No placed code reads a register that was given ahead of a call; by the words it is not wanted there.
        mark = (None, "mark", (("f", 0, ()),))
        code = ("f", "number", {
            0: ((("r0", "number"),), (mark, ("r3", "const", 1), ("s1", "copy", "r3"), ("r0", "call", "g", ("r0",)), ("r4", "plus", "r3", "r0")), ("try", "g", ("r0",), 1, 2)),
            1: ((("r0", "number"),), (mark, ("r5", "plus", "r4", "r0"), ("r5", "copy", "s1")), ("return", "r5")), 2: ((("r0", "number"),), (mark,), ("fail", "r4")),
        })
        self.assertEqual(wanted(code)[0], [["r0"], ["r0"], ["r0", "r3"], ["r0", "s1"], ["r0", "r3", "s1"], ["r0", "s1"]])
        self.assertIsNone(way_to(code, (0, 3), "r3"))
        self.assertEqual(way_to(code, (0, 4), "r3"), [0])
        self.assertIsNone(way_to(code, (0, 5), "r4"))
        self.assertEqual(way_to(code, (0, 3), "s1"), [0, 1])
        self.assertEqual(way_to(code, (2, 0), "r4"), [2])

    def test_all_ways(self):
        rng = random.Random(111)
        seen = {True: 0, False: 0}
        for code in some_codes(rng, 25):
            found = wanted(code)
            self.assertEqual(list(found), sorted(code[2]))
            self.assertEqual([len(found[number]) for number in found], [len(code[2][number][1]) + 1 for number in sorted(code[2])])
            places = places_of(code)
            for number, index in rng.sample(spots(code), min(20, len(spots(code)))):
                told = [place for place in places if blocks_to_reading(code, (number, index), place) is not None]
                self.assertEqual(found[number][index], told)
                seen[told == []] += 1
        self.assertGreater(min(seen.values()), 20)

    def test_ways_to(self):
        rng = random.Random(112)
        seen = {}
        for code in some_codes(rng, 25):
            places = places_of(code)
            for spot in rng.sample(spots(code), min(8, len(spots(code)))):
                for place in rng.sample(places, min(10, len(places))):
                    many = blocks_to_reading(code, spot, place)
                    way = way_to(code=code, spot=spot, place=place)
                    seen[many] = seen.get(many, 0) + 1
                    if many is None:
                        self.assertIsNone(way)
                    else:
                        self.assertIsInstance(way, list)
                        self.assertEqual(len(way), many)
                        self.walk_along(code, spot, place, way)
        self.assertGreater(min(seen.get(many, 0) for many in (None, 1, 2, 3)), 20)

    def walk_along(self, code, spot, place, way):
        """Whether a way leads from a spot to the first row or end that reads a place, with no giving between."""
        self.assertEqual(way[0], spot[0])
        for at, number in enumerate(way):
            parameters, rows, end = code[2][number]
            if at > 0:
                self.assertIn(number, leads(code[2][way[at - 1]][2]))
                self.assertNotIn(place, [given for given, _ in parameters])
            for row in rows[spot[1] if at == 0 else 0:]:
                if place in row_reads(row):
                    self.assertEqual(at, len(way) - 1)
                    return
                self.assertFalse(row[0] == place or is_forgotten(place, row[1]))
            if place in read_by(end[1:]):
                self.assertEqual(at, len(way) - 1)
                return
            self.assertFalse(is_forgotten(place, end[0]))
        self.fail("the place is not read")

    def test_a_way_around(self):
        code = numbers_code("f", {
            0: (["v0", "v1"], [], ("jump", 4, ("v0",))), 4: (["v3"], [(None, "show", "v1")], ("branch", "v3", 7, 5)),
            7: ([], [], ("jump", 4, ("v0",))), 5: ([], [], ("return", "v0")),
        })
        self.assertEqual(way_to(code, (4, 2), "v1"), [4, 7, 4])
        self.assertEqual(way_to(code, (4, 1), "v1"), [4])
        self.assertEqual(way_to(code, (7, 0), "v1"), [7, 4])
        self.assertIsNone(way_to(code, (5, 0), "v1"))
        # A parameter is given on the way into its block.
        self.assertIsNone(way_to(code, (7, 0), "v3"))
        self.assertEqual(way_to(code, (4, 0), "v3"), [4])
        self.assertIn(way_to(code, (4, 2), "v0"), ([4, 7], [4, 5]))
        for place in ("v9", "r0", "s0", "v9999"):
            self.assertIsNone(way_to(code, (0, 0), place))

    def test_wrong_values(self):
        for thing in odd_values() + [(0, 4), (0, -1), (1, 0), [0, 0], (0, 0, 0), (False, 0), (0, True), ("0", 0)]:
            self.assertRaises(BadSpot, way_to, EXAMPLE, thing, None)
        for thing in odd_values() + ["v01", "v10000", "r9", "s1000", "x0", "v", 0, ("v0",), "V0", "v-1"]:
            if thing not in ("v0", "r0"):
                self.assertRaises(BadPlace, way_to, EXAMPLE, (0, 0), thing)
        self.assertEqual(way_to(EXAMPLE, (0, 3), "v2"), [0])

    def test_what_is_returned_is_new(self):
        for call in (wanted, alive):
            one = call(EXAMPLE)
            one[0][0].clear()
            one.clear()
            self.assertEqual(call(EXAMPLE)[0][0], ["v0"])


class Alive(unittest.TestCase):
    def test_alive(self):
        rng = random.Random(113)
        for code in some_codes(rng, 25):
            told = wanted(code)
            found = alive(code)
            self.assertEqual(list(found), sorted(code[2]))
            for number, (parameters, rows, _) in code[2].items():
                given = [[place for place, _ in parameters]] + [[row[0]] for row in rows]
                for index, places in enumerate(found[number]):
                    both = set(told[number][index]) | {place for place in given[index] if place is not None}
                    self.assertEqual(places, sorted(both, key=order))

    def test_dead_places_are_alive_behind_their_rows(self):
        code = numbers_code("f", {0: (["v0", "v10", "v9"], [("v1", "const", 1), ("v2", "const", 2), (None, "show", "v1")], ("return", "v1"))})
        self.assertEqual(alive(code), {0: [["v0", "v9", "v10"], [], ["v1"], ["v1", "v2"], ["v1"]]})
        self.assertEqual(wanted(code), {0: [[], [], ["v1"], ["v1"], ["v1"]]})


class Carried(unittest.TestCase):
    def test_by_hand(self):
        code = numbers_code("f", {
            0: (["v12", "v2"], [("v4", "call", "f", ("v12", "v2")), ("v5", "call", "f", ("v4", "v4")), (None, "show", "v2")], ("jump", 5, ())),
            5: ([], [("v6", "plus", "v5", "v12"), ("v20", "const", 1)], ("try", "f", ("v6", "v6"), 6, 7)),
            6: (["v8"], [("v9", "call", "f", ("v8", "v20"))], ("return", "v9")), 7: (["v10"], [], ("fail", "v6")),
        })
        found = carried(code)
        self.assertEqual(found, {"v2": (0, 1), "v6": (5, 3), "v12": (0, 1), "v20": (5, 3)})
        self.assertEqual(list(found), ["v2", "v6", "v12", "v20"])

    def test_all_codes(self):
        rng = random.Random(114)
        many = 0
        for code in some_codes(rng, 30):
            if places_of(code) and places_of(code)[0][0] == "v":
                told = wanted(code)
                reasons = {}
                for number, index in spots(code):
                    _, rows, end = code[2][number]
                    if index < len(rows) and rows[index][1] == "call":
                        behind = [place for place in told[number][index + 1] if place != rows[index][0]]
                    elif index == len(rows) and end[0] == "try":
                        behind = [place for other in end[3:] for place in told[other][0] if place != code[2][other][0][0][0]]
                    else:
                        continue
                    for place in behind:
                        reasons.setdefault(place, (number, index))
                found = carried(code)
                self.assertEqual(found, reasons)
                self.assertEqual(list(found), sorted(found, key=order))
                many += len(found)
        self.assertGreater(many, 100)


if __name__ == "__main__":
    unittest.main()
