"""Point 60: which blocks stand ahead of which, ways past a block, who reads a place, and rings of calls."""

import itertools
import random
import unittest

from code_tools import context, kinds_and_codes, numbers_code, sound_programs
from odd_values import odd_values
from random_codes import random_code
from stopanywhere.errors import BadBlock, BadCode, BadCodes, BadPlace, BadScope, NoFunction
from stopanywhere.forms import Scope, scope_of_codes
from stopanywhere.roads import ahead_of, readers, ring_of, way_past
from test_forms import NAMED, PLACED, SCOPE


def leads(end):
    return {"jump": end[1:2], "branch": end[2:], "try": end[3:]}.get(end[0], ())


def ways_to(code, last, shunned):
    """All shortest ways from block 0 that do not stand on a shunned block."""
    ways = [(0,)] if shunned != 0 else []
    met = {0}
    while ways:
        found = [way for way in ways if way[-1] == last]
        if found:
            return found
        longer = [way + (other,) for way in ways for other in leads(code[2][way[-1]][2]) if other not in met and other != shunned]
        met.update(way[-1] for way in longer)
        ways = longer
    return []


def reads_of(row):
    """The places that stand in a row, or an end, behind its word."""
    if row[1] in ("mark", "back", "still"):
        return []
    return [part for thing in row[2:] for part in (thing if isinstance(thing, tuple) else (thing,)) if is_place(part)]


def reads_of_end(end):
    return reads_of((None,) + end)


def is_place(thing):
    return isinstance(thing, str) and thing[:1] == "v" and thing[1:].isdigit()


class Blocks(unittest.TestCase):
    def test_by_hand(self):
        code = numbers_code("f", {
            0: (["v0"], [], ("branch", "v0", 9, 4)), 9: ([], [], ("jump", 5, ())), 4: ([], [], ("jump", 7, ())),
            7: ([], [], ("jump", 5, ())), 5: ([], [], ("branch", "v0", 6, 2)), 6: ([], [], ("jump", 5, ())), 2: ([], [], ("return", "v0")),
        })
        scope = Scope([], {"f": (("number",), "number")})
        self.assertEqual(ahead_of(scope=scope, code=code, block=6), (0, 5, 6))
        self.assertEqual([ahead_of(scope, code, block) for block in (0, 7, 2, 5)], [(0,), (0, 4, 7), (0, 2, 5), (0, 5)])
        self.assertEqual(way_past(scope=scope, code=code, block=2, other=4), (0, 9, 5, 2))
        self.assertEqual(way_past(scope, code, 2, 9), (0, 4, 7, 5, 2))
        self.assertEqual(way_past(scope, code, 7, 2), (0, 4, 7))
        self.assertEqual(way_past(scope, code, 0, 5), (0,))
        for block, other in ((2, 5), (2, 0), (5, 5), (0, 0), (7, 4)):
            self.assertIsNone(way_past(scope, code, block, other))

    def test_the_least_of_the_shortest_ways(self):
        code = numbers_code("f", {
            0: (["v0"], [], ("branch", "v0", 8, 3)), 8: ([], [], ("branch", "v0", 1, 2)), 3: ([], [], ("branch", "v0", 6, 5)),
            1: ([], [], ("jump", 9, ())), 2: ([], [], ("jump", 4, ())), 6: ([], [], ("jump", 9, ())), 5: ([], [], ("jump", 4, ())),
            9: ([], [], ("jump", 4, ())), 4: ([], [], ("return", "v0")),
        })
        scope = Scope([], {"f": (("number",), "number")})
        for shunned, way in ((9, (0, 3, 5, 4)), (5, (0, 8, 2, 4)), (1, (0, 3, 5, 4)), (3, (0, 8, 2, 4))):
            self.assertEqual(way_past(scope, code, 4, shunned), way)
        self.assertEqual(way_past(scope, code, 9, 4), (0, 3, 6, 9))

    def test_random_codes(self):
        rng = random.Random(81)
        codes = [random_code(rng)[0] for _ in range(30)]
        for program in sound_programs(rng, 6):
            codes.extend(kinds_and_codes(program)[1].values())
        seen = {True: 0, False: 0}
        for code in codes:
            if code[0] != "f":
                continue
            scope = Scope([], {"f": (tuple(kind for _, kind in code[2][0][0]), "number")})
            for block in rng.sample(sorted(code[2]), min(4, len(code[2]))):
                ways = {other: ways_to(code, block, other) for other in code[2]}
                self.assertEqual(ahead_of(scope, code, block), tuple(sorted(other for other in ways if not ways[other])))
                for other in rng.sample(sorted(ways), min(5, len(ways))):
                    seen[ways[other] == []] += 1
                    self.assertEqual(way_past(scope, code, block, other), min(ways[other], default=None))
        self.assertGreater(min(seen.values()), 100)


class Readers(unittest.TestCase):
    def test_by_hand(self):
        self.assertEqual(readers(scope=SCOPE, code=NAMED, place="v0"), (
            (0, 2), (0, 3), (0, 6), (7, 1), (7, 2), (7, 3), (7, 6), (30, 1), (31, 1), (9999, 4), (9999, 6),
        ))
        for place, spots in (
            ("v1", ((0, 5),)), ("v3", ((0, 3),)), ("v5", ((0, 6), (0, 11))), ("v6", ((0, 6),)), ("v7", ((0, 7), (0, 8))), ("v10", ((0, 10),)),
            ("v16", ((7, 9),)), ("v17", ((7, 9),)), ("v8", ()), ("v55", ((9999, 6), (9999, 7))), ("v54", ((9999, 5),)),
            ("v57", ((40, 1), (41, 1), (9999, 8), (9999, 10))), ("v100", ((32, 1),)), ("v9999", ((31, 1),)),
        ):
            self.assertEqual(readers(SCOPE, NAMED, place), spots, place)

    def test_a_row_that_reads_twice_is_told_once(self):
        code = numbers_code("f", {
            0: (["v0"], [("v1", "plus", "v0", "v0"), ("v2", "call", "f", ("v1",))], ("jump", 1, ("v0", "v1", "v0"))),
            1: (["v3", "v4", "v5"], [], ("return", "v3")),
        })
        scope = Scope([], {"f": (("number",), "number")})
        self.assertEqual(readers(scope, code, "v0"), ((0, 1), (0, 3)))
        self.assertEqual(readers(scope, code, "v1"), ((0, 2), (0, 3)))

    def test_programs(self):
        rng = random.Random(82)
        for program in sound_programs(rng, 8):
            kinds, codes = kinds_and_codes(program)
            scope = scope_of_codes(kinds, list(codes.values()))
            for code in codes.values():
                found = {}
                for number, (parameters, rows, end) in sorted(code[2].items()):
                    for place, _ in parameters:
                        found.setdefault(place, [])
                    for row in rows:
                        if row[0] is not None:
                            found.setdefault(row[0], [])
                for number, (parameters, rows, end) in sorted(code[2].items()):
                    for index, places in enumerate([reads_of(row) for row in rows] + [reads_of_end(end)]):
                        for place in set(places):
                            found[place].append((number, index))
                for place in rng.sample(sorted(found), min(6, len(found))):
                    self.assertEqual(readers(scope, code, place), tuple(found[place]))


def caller(name, *called):
    """Code that calls functions in rows, and the last one in a try."""
    rows = [("v1", "const", 1)] + [(f"v{at + 2}", "call", other, ("v1",)) for at, other in enumerate(called[:-1])]
    if not called:
        return numbers_code(name, {0: (["v0"], rows, ("return", "v0"))})
    return numbers_code(name, {
        0: (["v0"], rows, ("try", called[-1], ("v0",), 1, 2)), 1: (["v90"], [], ("return", "v90")), 2: (["v91"], [], ("fail", "v91")),
    })


class Rings(unittest.TestCase):
    SCOPE = Scope([], {name: (("number",), "number") for name in "abcdefgz"})

    def ring(self, calls, name):
        return ring_of(self.SCOPE, {key: caller(key, *calls[key]) for key in calls}, name)

    def test_by_hand(self):
        calls = {"a": "bc", "b": "dz", "c": "d", "d": "ea", "e": "e", "f": "ab", "g": ""}
        self.assertEqual([self.ring(calls, name) for name in "abcdefg"], [
            ("a", "b", "d", "a"), ("b", "d", "a", "b"), ("c", "d", "a", "c"), ("d", "a", "b", "d"), ("e", "e"), None, None,
        ])
        self.assertEqual(ring_of(scope=self.SCOPE, codes={"a": caller("a", "b", "a")}, name="a"), ("a", "a"))
        # What is no key leads nowhere.
        self.assertIsNone(self.ring({"a": "b", "c": "a"}, "a"))
        self.assertIsNone(self.ring({"a": "zz"}, "a"))

    def test_all_rings(self):
        rng = random.Random(83)
        seen = {}
        for _ in range(150):
            names = "abcde"[:rng.randint(1, 5)]
            calls = {name: "".join(rng.choice("abcde") for _ in range(rng.randint(0, 3))) for name in names}
            for name in names:
                found = self.ring(calls, name)
                told = None
                for many in range(len(names)):
                    rings = [
                        (name,) + way + (name,) for way in itertools.product(names, repeat=many)
                        if all(two in calls[one] for one, two in zip((name,) + way, way + (name,)))
                    ]
                    if rings:
                        told = min(rings)
                        break
                self.assertEqual(found, told, (calls, name))
                seen[told and len(told)] = seen.get(told and len(told), 0) + 1
        self.assertGreater(min(seen[key] for key in (None, 2, 3, 4)), 5)


class WrongValues(unittest.TestCase):
    def test_scopes_and_codes(self):
        for call in (
            lambda scope, code: ahead_of(scope, code, None), lambda scope, code: way_past(scope, code, None, None),
            lambda scope, code: readers(scope, code, None),
        ):
            for thing in odd_values():
                if not isinstance(thing, Scope):
                    self.assertRaises(BadScope, call, thing, None)
                self.assertRaises(BadCode, call, SCOPE, thing)
            self.assertRaises(BadCode, call, SCOPE, PLACED)

    def test_blocks(self):
        for thing in odd_values() + [1, -1, 8, 40.0, "7", (7,), False]:
            if thing not in (0, 9999) or thing is False:
                self.assertRaises(BadBlock, ahead_of, SCOPE, NAMED, thing)
                self.assertRaises(BadBlock, way_past, SCOPE, NAMED, thing, None)
                self.assertRaises(BadBlock, way_past, SCOPE, NAMED, thing, 9999)
                self.assertRaises(BadBlock, way_past, SCOPE, NAMED, 0, thing)
        one = numbers_code("f", {0: ([], [], ("jump", 1, ())), 1: ([], [("v0", "const", 1)], ("return", "v0"))})
        scope = Scope([], {"f": ((), "number")})
        self.assertRaises(BadBlock, ahead_of, scope, one, True)
        self.assertRaises(BadBlock, way_past, scope, one, 1, True)
        self.assertEqual(ahead_of(scope, one, 1), (0, 1))

    def test_places(self):
        for thing in odd_values() + ["v200", "r0", "v01", ["v1"]]:
            if thing != "v0":
                self.assertRaises(BadPlace, readers, SCOPE, NAMED, thing)

    def test_codes(self):
        for thing in odd_values():
            if not isinstance(thing, Scope):
                self.assertRaises(BadScope, ring_of, thing, None, None)
            is_empty = isinstance(thing, dict) and not thing
            is_named_key = isinstance(thing, dict) and "a" in thing
            if not is_empty:
                with self.assertRaises(BadCodes) as caught:
                    ring_of(SCOPE, thing, None)
                self.assertEqual(caught.exception.at, "a" if is_named_key else None)
            for codes in ({"f": NAMED, "g": thing, "z": 1}, {"z": NAMED, "g": thing}):
                with self.assertRaises(BadCodes) as caught:
                    ring_of(SCOPE, codes, None)
                self.assertEqual(caught.exception.at, "g")
            if not isinstance(thing, str) or thing != "f":
                with self.assertRaises(NoFunction) as caught:
                    ring_of(SCOPE, {"f": NAMED}, thing)
                self.assertEqual(repr(caught.exception.name), repr(thing))
                with self.assertRaises(NoFunction):
                    ring_of(SCOPE, {}, thing)
        for codes in ({1: NAMED}, {True: NAMED}, {"if": NAMED}, {None: NAMED, "f": NAMED}, [("f", NAMED)], {("f",): NAMED}):
            with self.assertRaises(BadCodes) as caught:
                ring_of(SCOPE, codes, "f")
            self.assertIsNone(caught.exception.at)
        for codes, name in (({"g": NAMED}, "g"), ({"f": PLACED}, "f"), ({"f": NAMED, "b": NAMED, "c": NAMED}, "b"), ({"h": NAMED}, "h")):
            with self.assertRaises(BadCodes) as caught:
                ring_of(SCOPE, codes, name)
            self.assertEqual(caught.exception.at, name)
        with self.assertRaises(NoFunction):
            ring_of(SCOPE, {"f": NAMED}, "g")
        self.assertIsNone(ring_of(SCOPE, {"f": NAMED}, "f"))

    def test_functions_that_call_by_rows_of_context(self):
        # The frames of context rows tell functions, but call none.
        code = ("f", "number", {0: ((("v0", "number"),), (context("mark", ("f", 0, {}), ("f", 1, {})),), ("return", "v0"))})
        self.assertIsNone(ring_of(Scope([], {"f": (("number",), "number")}), {"f": code}, "f"))


if __name__ == "__main__":
    unittest.main()
