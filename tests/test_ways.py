"""Points 54 and 55: what is held, ways, one numbering, and parameters that others stand for."""

import itertools
import random
import unittest

from code_runner import run_codes
from odd_values import odd_values
from random_codes import random_code
from stopanywhere.errors import BadCode, BadPlace, BadScope, BadSpot
from stopanywhere.forms import Scope, is_named
from stopanywhere.ways import are_alike, kinds_at, stand_ins, tidy, way_without, without_stand_ins
from test_forms import NAMED, PLACED, SCOPE

MARK = (None, "mark", (("f", 0, ()),))
STILL = (None, "still", (("f", 0, ()),))


def scope_for(many):
    return Scope([], {"f": (("number",) * many, "number")})


def code_of(blocks):
    """Code of numbers alone: of each block the parameters, rows behind a mark, and the end."""
    return "f", "number", {
        number: (tuple((place, "number") for place in parameters), (MARK,) + tuple(rows), end)
        for number, (parameters, rows, end) in blocks.items()
    }


def leads(end):
    return {"jump": end[1:2], "branch": end[2:], "try": end[3:]}.get(end[0], ())


def given(block, index=None):
    parameters, rows, _ = block
    return [place for place, _ in parameters] + [row[0] for row in rows[:index] if row[0] is not None]


def spots(code):
    return [(number, index) for number, block in code[2].items() for index in range(len(block[1]) + 1)]


def some(rng, things, most):
    return rng.sample(things, min(most, len(things)))


def ways_without(code, place):
    """The dict from blocks to the least numbers of blocks of ways on which a place is not given ahead of the block."""
    blocks = code[2]
    found = {0: 1}
    coming = [0]
    for number in coming:
        if place not in given(blocks[number]):
            for other in leads(blocks[number][2]):
                if other not in found:
                    found[other] = found[number] + 1
                    coming.append(other)
    return found


class Case(unittest.TestCase):
    def codes(self, seed, many):
        rng = random.Random(seed)
        for _ in range(many):
            code, taken = random_code(rng)
            yield code, scope_for(taken)


class KindsAt(Case):
    def test_named(self):
        self.assertEqual(kinds_at(NAMED, SCOPE, (0, 0)), {"v0": "number", "v1": "c"})
        self.assertEqual(kinds_at(code=NAMED, scope=SCOPE, spot=(0, 3)), {
            "v0": "number", "v1": "c", "v2": "number", "v3": "number",
        })
        found = kinds_at(NAMED, SCOPE, (40, 1))
        self.assertEqual(found, {
            **{f"v{k}": "number" for k in (0, 2, 3, 4, 5, 8, 10, 51, 53, 54, 55, 56, 57)}, "v1": "c", "v6": "c", "v7": "c",
            "v9": "c", "v50": "c", "v52": "s", "v53": "c", "v58": "t", "v59": "c",
        })
        self.assertEqual(list(found), sorted(found))
        self.assertEqual(kinds_at(NAMED, SCOPE, (32, 0))["v100"], "number")
        self.assertNotIn("v9999", kinds_at(NAMED, SCOPE, (9999, 0)))

    def test_placed(self):
        self.assertEqual(kinds_at(PLACED, SCOPE, (0, 4)), {
            "r0": "number", "r1": "c", "r2": "number", "s0": "number", "s999": "c",
        })
        self.assertEqual(kinds_at(PLACED, SCOPE, (0, 7)), {"r0": "number", "s0": "number", "s999": "c"})
        self.assertEqual(kinds_at(PLACED, SCOPE, (0, 9)), {"r0": "c", "s0": "number", "s999": "c"})
        self.assertEqual(kinds_at(PLACED, SCOPE, (5, 0)), {"r0": "c", "s0": "number", "s999": "c"})
        self.assertEqual(kinds_at(PLACED, SCOPE, (6, 1)), {"r0": "number", "s0": "number", "s999": "c"})
        self.assertEqual(kinds_at(PLACED, SCOPE, (8, 0)), {"r0": "number", "s0": "number", "s7": "c", "s999": "c"})
        self.assertEqual(kinds_at(PLACED, SCOPE, (11, 1)), {
            "r0": "number", "r1": "number", "r2": "number", "s0": "number", "s7": "c", "s999": "c",
        })

    def test_placed_for_nine_registers(self):
        blocks = dict(PLACED[2])
        blocks[11] = ((), blocks[11][1] + (("r8", "copy", "r1"),), blocks[11][2])
        self.assertEqual(kinds_at(("f", "number", blocks), SCOPE, (11, 2))["r8"], "number")

    def test_random_codes(self):
        rng = random.Random(28)
        for code, scope in self.codes(22, 60):
            places = [place for block in code[2].values() for place in given(block)]
            without = {place: ways_without(code, place) for place in places}
            for number, index in some(rng, spots(code), 8):
                here = given(code[2][number], index)
                held = {place: "number" for place in places if place in here or number not in without[place]}
                found = kinds_at(code, scope, (number, index))
                self.assertEqual(found, held)
                self.assertEqual(list(found), sorted(held))

    def test_dicts_are_new(self):
        kinds_at(NAMED, SCOPE, (0, 0)).clear()
        self.assertEqual(len(kinds_at(NAMED, SCOPE, (0, 0))), 2)


class WaysWithout(Case):
    def test_random_codes(self):
        seen = {True: 0, False: 0}
        rng = random.Random(29)
        for code, scope in self.codes(23, 40):
            for place in some(rng, [place for block in code[2].values() for place in given(block)], 4):
                least = ways_without(code, place)
                for number, index in some(rng, spots(code), 8):
                    found = way_without(code, scope, (number, index), place)
                    seen[found is None] += 1
                    if place in given(code[2][number], index) or number not in least:
                        self.assertIsNone(found)
                    else:
                        self.assertEqual(len(found), least[number])
                        self.assertEqual((found[0], found[-1]), (0, number))
                        for one, other in zip(found, found[1:]):
                            self.assertIn(other, leads(code[2][one][2]))
                            self.assertNotIn(place, given(code[2][one]))
                    self.assertEqual(found is None, place in kinds_at(code, scope, (number, index)))
        self.assertGreater(min(seen.values()), 100)

    def test_by_hand(self):
        code = code_of({
            0: (["v0"], [], ("jump", 5, ())), 5: ([], [("v1", "const", 1)], ("branch", "v0", 3, 4)),
            3: ([], [("v2", "const", 1)], ("jump", 5, ())), 4: ([], [], ("return", "v0")),
        })
        scope = scope_for(1)
        self.assertEqual(way_without(code, scope, (5, 1), "v1"), [0, 5])
        self.assertIsNone(way_without(code, scope, (5, 2), "v1"))
        self.assertIsNone(way_without(code, scope, (3, 0), "v1"))
        self.assertEqual(way_without(code=code, scope=scope, spot=(3, 1), place="v2"), [0, 5, 3])
        self.assertEqual(way_without(code, scope, (4, 0), "v2"), [0, 5, 4])
        self.assertIsNone(way_without(code, scope, (0, 0), "v0"))
        self.assertEqual(way_without(code, scope, (0, 1), "v2"), [0])


class Tidy(Case):
    def test_by_hand(self):
        code = code_of({
            0: (["v7", "v3"], [("v5", "less", "v3", "v7")], ("branch", "v5", 50, 20)),
            20: ([], [("v1", "copy", "v3")], ("try", "f", ("v1", "v7"), 9, 8)),
            50: ([], [("v2", "const", 4)], ("jump", 7, ("v2",))), 9: (["v0"], [], ("jump", 7, ("v0",))),
            8: (["v4"], [], ("fail", "v4")), 7: (["v6"], [(None, "show", "v6")], ("return", "v5")),
        })
        told = code_of({
            0: (["v0", "v1"], [("v2", "less", "v1", "v0")], ("branch", "v2", 1, 2)),
            1: ([], [("v3", "const", 4)], ("jump", 3, ("v3",))), 2: ([], [("v4", "copy", "v1")], ("try", "f", ("v4", "v0"), 4, 5)),
            3: (["v5"], [(None, "show", "v5")], ("return", "v2")), 4: (["v6"], [], ("jump", 3, ("v6",))),
            5: (["v7"], [], ("fail", "v7")),
        })
        scope = scope_for(2)
        found = tidy(code=code, scope=scope)
        self.assertEqual(found, told)
        self.assertEqual(list(found[2]), [0, 1, 2, 3, 4, 5])
        self.assertTrue(are_alike(code=code, other=told, scope=scope))

    def test_all_sorts_of_rows(self):
        found = tidy(NAMED, SCOPE)
        self.assertTrue(is_named(found, SCOPE))
        self.assertEqual(tidy(found, SCOPE), found)
        self.assertEqual(found[2][1][1][0], (None, "still", (("f", 0, (
            ("a", "number", ("of", "v0", -1, 5)), ("x", "c", ("make", "w", (("is", 3), ("lost",), ("make", "v", ())))),
            ("y", "number", ("is", -1)), ("z", "e", ("lost",)),
        )),)))
        self.assertEqual(found[2][2][1][0][2][1], ("q", 0, (("n", "number", ("of", "v5", 1, 0)),)))

    def test_random_codes(self):
        rng = random.Random(24)
        for code, scope in self.codes(25, 60):
            found = tidy(code, scope)
            self.assertTrue(is_named(found, scope))
            self.assertEqual(tidy(found, scope), found)
            self.assertEqual(list(found[2]), list(range(len(code[2]))))
            other = self.renumbered(rng, code)
            self.assertTrue(is_named(other, scope))
            self.assertEqual(tidy(other, scope), found)
            self.assertTrue(are_alike(code, other, scope))
            unlike = self.with_one_row_more(code)
            self.assertFalse(are_alike(code, unlike, scope))
            many = len(code[2][0][0])
            self.assertEqual(
                run_codes(scope, {"f": code}, "f", [1, 2, 0][:many], 25),
                run_codes(scope, {"f": found}, "f", [1, 2, 0][:many], 25),
            )

    def renumbered(self, rng, code):
        places = sorted({place for block in code[2].values() for place in given(block)})
        others = rng.sample(range(10000), len(places))
        table = {place: f"v{number}" for place, number in zip(places, others)}
        numbers = dict(zip(code[2], rng.sample(range(1, 10000), len(code[2]))))
        numbers[0] = 0

        def turn(thing):
            if isinstance(thing, tuple):
                return tuple(turn(part) for part in thing)
            return table.get(thing, thing) if isinstance(thing, str) else thing

        found = {}
        for number, (parameters, rows, end) in code[2].items():
            end = turn(end)
            if end[0] == "jump":
                end = ("jump", numbers[end[1]], end[2])
            if end[0] in ("branch", "try"):
                end = end[:-2] + (numbers[end[-2]], numbers[end[-1]])
            found[numbers[number]] = (turn(parameters), turn(rows), end)
        return code[:2] + (found,)

    def with_one_row_more(self, code):
        number = max(code[2])
        parameters, rows, end = code[2][number]
        return code[:2] + ({**code[2], number: (parameters, rows + (STILL,), end)},)


def all_stand_ins(code):
    """All standing-ins, by trying out which parameters are keys; the place of each follows from that."""
    blocks = code[2]
    given_to = {}
    for _, _, end in blocks.values():
        if end[0] == "jump":
            for (place, _), argument in zip(blocks[end[1]][0], end[2]):
                given_to.setdefault(place, []).append(argument)
    found = []
    for many in range(len(given_to) + 1):
        for keys in itertools.combinations(sorted(given_to), many):
            table = {key: sources(key, keys, given_to) for key in keys}
            if all(len(places) == 1 for places in table.values()):
                found.append({key: min(places) for key, places in table.items()})
    return found


def sources(key, keys, given_to):
    met, coming = {key}, [key]
    found = set()
    for place in coming:
        for argument in given_to[place]:
            if argument in keys:
                if argument not in met:
                    met.add(argument)
                    coming.append(argument)
            else:
                found.add(argument)
    return found


class StandIns(Case):
    def test_rings_and_joins(self):
        scope = scope_for(2)
        code = code_of({
            0: (["v0", "v1"], [], ("jump", 1, ("v0", "v0", "v1"))),
            1: (["v10", "v2", "v3"], [], ("branch", "v3", 2, 3)),
            2: ([], [], ("jump", 1, ("v2", "v10", "v2"))), 3: ([], [], ("jump", 4, ("v10", "v3", "v3"))),
            4: (["v4", "v5", "v6"], [], ("return", "v5")),
        })
        self.assertEqual(stand_ins(code=code, scope=scope), {"v2": "v0", "v4": "v0", "v5": "v3", "v6": "v3", "v10": "v0"})
        self.assertEqual(list(stand_ins(code, scope)), ["v2", "v4", "v5", "v6", "v10"])
        told = code_of({
            0: (["v0", "v1"], [], ("jump", 1, ("v1",))), 1: (["v3"], [], ("branch", "v3", 2, 3)),
            2: ([], [], ("jump", 1, ("v0",))), 3: ([], [], ("jump", 4, ())), 4: ([], [], ("return", "v3")),
        })
        found = without_stand_ins(code=code, scope=scope)
        self.assertEqual(found, told)
        self.assertEqual(list(found[2]), sorted(found[2]))

    def test_two_parameters_that_hang_on_one_another(self):
        # Each is given one place of its own and the other parameter: none of them stands in.
        code = code_of({
            0: (["v0", "v1"], [], ("branch", "v0", 1, 2)), 1: ([], [], ("jump", 3, ("v0",))),
            2: ([], [], ("jump", 4, ("v1",))), 3: (["v3"], [], ("branch", "v0", 5, 6)), 4: (["v4"], [], ("branch", "v0", 7, 8)),
            5: ([], [], ("jump", 4, ("v3",))), 6: ([], [], ("return", "v3")), 7: ([], [], ("jump", 3, ("v4",))),
            8: ([], [], ("return", "v4")),
        })
        self.assertEqual(stand_ins(code, scope_for(2)), {})
        self.assertEqual(without_stand_ins(code, scope_for(2)), code)

    def test_formulas_tell_of_other_places(self):
        scope = Scope([("choice", "c", (("v", ()), ("w", ("number", "c"))))], {"f": (("number", "c"), "number")})

        def told(first, second):
            inner = ("make", "w", (("of", first, -1, 3), ("of", second, 1, 0)))
            row = (None, "back", (("f", 1, (
                ("a", "c", ("make", "w", (("of", first, 1, 2), inner))), ("b", "number", ("of", first, -1, 7)),
                ("d", "c", ("of", second, 1, 0)), ("e", "c", ("make", "w", (("is", 4), ("lost",)))),
            )), ("g", 2, (("a", "c", inner),))))
            return (row,)

        code = ("f", "number", {
            0: ((("v3", "number"), ("v1", "c")), (MARK,), ("jump", 6, ("v3", "v1"))),
            6: ((("v7", "number"), ("v5", "c")), told("v7", "v5"), ("return", "v7")),
        })
        self.assertTrue(is_named(code, scope))
        self.assertEqual(tidy(code, scope), ("f", "number", {
            0: ((("v0", "number"), ("v1", "c")), (MARK,), ("jump", 1, ("v0", "v1"))),
            1: ((("v2", "number"), ("v3", "c")), told("v2", "v3"), ("return", "v2")),
        }))
        self.assertEqual(stand_ins(code, scope), {"v5": "v1", "v7": "v3"})
        self.assertEqual(without_stand_ins(code, scope), ("f", "number", {
            0: ((("v3", "number"), ("v1", "c")), (MARK,), ("jump", 6, ())),
            6: ((), told("v3", "v1"), ("return", "v3")),
        }))

    def test_parameters_of_tries_and_of_the_function_stay(self):
        code = code_of({
            0: (["v0"], [], ("try", "f", ("v0",), 1, 2)), 1: (["v1"], [], ("jump", 3, ("v1",))),
            2: (["v2"], [], ("return", "v2")), 3: (["v3"], [(None, "show", "v3")], ("return", "v3")),
        })
        self.assertEqual(stand_ins(code, scope_for(1)), {"v3": "v1"})
        self.assertEqual(without_stand_ins(code, scope_for(1))[2][3], ((), (MARK, (None, "show", "v1")), ("return", "v1")))

    def test_random_codes(self):
        rng = random.Random(30)
        seen = 0
        for code, scope in self.codes(26, 120):
            found = stand_ins(code, scope)
            every = all_stand_ins(code)
            self.assertIn(found, every)
            self.assertTrue(all(set(other) <= set(found) for other in every))
            self.assertEqual(list(found), sorted(found, key=lambda place: int(place[1:])))
            seen += len(found)
            less = without_stand_ins(code, scope)
            self.assertTrue(is_named(less, scope))
            self.assertEqual(stand_ins(less, scope), {})
            self.assertEqual(list(less[2]), sorted(code[2]))
            self.assertEqual({place for block in code[2].values() for place in given(block)} - set(found),
                             {place for block in less[2].values() for place in given(block)})
            for number, index in some(rng, spots(code), 5):
                held = kinds_at(code, scope, (number, index))
                for key, place in found.items():
                    if key in held:
                        self.assertIn(place, held)
            many = len(code[2][0][0])
            for arguments in ([0, 1, 2], [3, 0, -1]):
                self.assertEqual(
                    run_codes(scope, {"f": code}, "f", arguments[:many], 25),
                    run_codes(scope, {"f": less}, "f", arguments[:many], 25),
                )
        self.assertGreater(seen, 30)


class WrongValues(Case):
    CALLS = (
        lambda code, scope: kinds_at(code, scope, None), lambda code, scope: way_without(code, scope, None, None), tidy,
        lambda code, scope: are_alike(code, NAMED, scope), lambda code, scope: are_alike(NAMED, code, scope), stand_ins,
        without_stand_ins,
    )

    def test_scopes_and_codes(self):
        for call in self.CALLS:
            for thing in odd_values():
                if not isinstance(thing, Scope):
                    self.assertRaises(BadScope, call, thing, thing)
                self.assertRaises(BadCode, call, thing, SCOPE)
            self.assertRaises(BadCode, call, NAMED, Scope([], {}))
        for call in self.CALLS[1:]:
            self.assertRaises(BadCode, call, PLACED, SCOPE)
        self.assertRaises(BadScope, are_alike, None, None, None)

    def test_spots(self):
        for code in (NAMED, PLACED):
            for spot in odd_values() + [
                (0, -1), (0, len(code[2][0][1]) + 1), (99, 0), (0, 0, 0), (0,), [0, 0], (False, 0), (0, False), ("0", 0), (None, 0),
                ([], 0), (0, None), (0, "0"), (-1, 0),
            ]:
                self.assertRaises(BadSpot, kinds_at, code, SCOPE, spot)
                self.assertRaises(BadSpot, way_without, NAMED, SCOPE, spot, None)
            kinds_at(code, SCOPE, (0, len(code[2][0][1])))
        one = code_of({0: ([], [], ("jump", 1, ())), 1: ([], [("v0", "const", 1)], ("return", "v0"))})
        self.assertRaises(BadSpot, kinds_at, one, scope_for(0), (True, 0))

    def test_places(self):
        for place in odd_values() + ["v01", "v200", "r0", "s0", ("v1",), "v 1"]:
            if place != "v0":
                self.assertRaises(BadPlace, way_without, NAMED, SCOPE, (0, 0), place)

    def test_what_is_passed_is_not_changed(self):
        before = repr(NAMED)
        tidy(NAMED, SCOPE)[2].clear()
        without_stand_ins(NAMED, SCOPE)[2].clear()
        stand_ins(NAMED, SCOPE).clear()
        kinds_at(NAMED, SCOPE, (0, 0))
        self.assertEqual(repr(NAMED), before)


if __name__ == "__main__":
    unittest.main()
