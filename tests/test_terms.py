"""Point 90: terms of places of named code, asked by told_number and told_same alone."""

import random
import unittest

from code_tools import context, numbers_code
from odd_values import odd_values
from stopanywhere.errors import BadCode, BadPlace, BadScope
from stopanywhere.forms import Scope, is_named
from stopanywhere.terms import told_number, told_same
from test_forms import NAMED, PLACED, SCOPE

KINDS = [
    ("choice", "c", (("v", ()), ("w", ("number", "c")), ("x", ("r", "number", "c")))), ("row", "r", "number"),
    ("row", "s", "c"), ("choice", "d", (("y", ("s", "r")), ("z", ("s",)))),
]
IN_KINDS = Scope(KINDS, {"f": (("number", "number", "c"), "number"), "g": (("number",), "number"), "h": ((), "d")})
FORTY = 10 ** 40


class Sheet:
    """Rows of one block of named code, each with a new place; the block's parameters are atoms of numbers."""

    def __init__(self, many):
        self.count = many
        self.atoms = [f"v{at}" for at in range(many)]
        self.rows = []

    def give(self, *row):
        place = f"v{self.count}"
        self.count += 1
        self.rows.append((place, *row))
        return place

    def const(self, number):
        return self.give("const", number)

    def total(self, places):
        """The sum of places, put together from the left."""
        found = places[0]
        for place in places[1:]:
            found = self.give("plus", found, place)
        return found

    def product(self, places):
        found = places[0]
        for place in places[1:]:
            found = self.give("times", found, place)
        return found

    def code(self):
        head = [("v9998", "const", 0)]
        return numbers_code("f", {
            0: (["v9999"], head, ("jump", 7, ("v9998",) * len(self.atoms))), 7: (self.atoms, self.rows, ("return", "v9999")),
        })

    SCOPE = Scope([], {"f": (("number",), "number")})

    def number(self, place):
        return told_number(self.SCOPE, self.code(), place)

    def same(self, one, other):
        code = self.code()
        found = told_same(self.SCOPE, code, one, other)
        assert found == told_same(self.SCOPE, code, other, one)
        return found


class Sums(unittest.TestCase):
    def test_numbers(self):
        sheet = Sheet(2)
        x, y = sheet.atoms
        five, two, minus = sheet.const(5), sheet.const(2), sheet.const(-10 ** 11)
        for row, number in (
            (("plus", five, two), 7), (("minus", two, five), -3), (("times", five, minus), -5 * 10 ** 11), (("copy", minus), -10 ** 11),
            (("less", two, five), 1), (("less", five, two), 0), (("less", two, two), 0), (("atmost", two, two), 1), (("atmost", five, two), 0),
            (("same", two, five), 0), (("same", five, five), 1), (("not", five), 0), (("not", sheet.const(0)), 1),
            (("minus", x, x), 0), (("times", x, sheet.const(0)), 0), (("same", x, x), 1), (("less", y, y), 0), (("atmost", y, y), 1),
            (("plus", x, y), None), (("copy", x), None), (("not", x), None), (("less", x, y), None), (("times", x, x), None),
        ):
            self.assertEqual(sheet.number(sheet.give(*row)), number, row)
        self.assertIsNone(sheet.number(x))
        self.assertEqual(sheet.number(five), 5)
        self.assertEqual(sheet.number(sheet.give("minus", sheet.give("plus", x, five), sheet.give("plus", two, x))), 3)
        below = sheet.give("less", sheet.give("plus", x, two), sheet.give("plus", x, five))
        self.assertEqual(sheet.number(below), 1)

    def test_by_hand(self):
        sheet = Sheet(3)
        x, y, z = sheet.atoms
        self.assertTrue(sheet.same(sheet.give("times", sheet.give("plus", x, y), z),
                                   sheet.give("plus", sheet.give("times", z, y), sheet.give("times", x, z))))
        square = sheet.give("times", sheet.give("plus", x, y), sheet.give("minus", x, y))
        self.assertTrue(sheet.same(square, sheet.give("minus", sheet.give("times", x, x), sheet.give("times", y, y))))
        self.assertFalse(sheet.same(x, y))
        self.assertFalse(sheet.same(sheet.give("times", x, x), x))
        self.assertTrue(sheet.same(sheet.give("copy", x), x))

    def test_all_sums_and_products(self):
        """Two such terms are the same exactly if they come to the same number for all numbers."""
        rng = random.Random(71)
        seen = {True: 0, False: 0}
        points = [[rng.randint(-10 ** 9, 10 ** 9) for _ in range(3)] for _ in range(3)]
        for _ in range(25):
            sheet = Sheet(3)
            worths = {place: [point[at] for point in points] for at, place in enumerate(sheet.atoms)}
            depths = {place: 1 for place in sheet.atoms}
            for _ in range(30):
                one, other = rng.choice(list(worths)), rng.choice(list(worths))
                word = rng.choice(["const", "copy", "plus", "plus", "minus", "minus", "times"])
                if word == "times" and depths[one] + depths[other] > 8:
                    continue
                if word == "const":
                    number = rng.randint(-1, 2)
                    place = sheet.const(number)
                    worths[place], depths[place] = [number] * 3, 0
                elif word == "copy":
                    place = sheet.give("copy", one)
                    worths[place], depths[place] = worths[one], depths[one]
                else:
                    place = sheet.give(word, one, other)
                    worths[place] = [
                        {"plus": a + b, "minus": a - b, "times": a * b}[word] for a, b in zip(worths[one], worths[other])
                    ]
                    depths[place] = depths[one] + depths[other] if word == "times" else max(depths[one], depths[other])
            code = sheet.code()
            for one in worths:
                for other in rng.sample(list(worths), 8):
                    is_same = worths[one] == worths[other]
                    seen[is_same] += one != other
                    self.assertEqual(told_same(Sheet.SCOPE, code, one, other), is_same)
                number = told_number(Sheet.SCOPE, code, one)
                if number is None:
                    self.assertNotEqual(len(set(worths[one])), 1)
                else:
                    self.assertEqual(worths[one], [number] * 3)
        self.assertGreater(min(seen.values()), 200)


class Bounds(unittest.TestCase):
    def test_products(self):
        sheet = Sheet(66)
        atoms = sheet.atoms
        # 64 products are a sum in whatever order they are put together; a number beside them counts for none.
        one = sheet.total(atoms[:64])
        other = sheet.total(atoms[63::-1])
        self.assertTrue(sheet.same(one, other))
        five = sheet.const(5)
        self.assertTrue(sheet.same(sheet.give("minus", sheet.give("plus", one, five), five), one))
        # 65 are told by the two that were put together.
        more = sheet.give("plus", one, atoms[64])
        self.assertTrue(sheet.same(more, sheet.give("plus", other, atoms[64])))
        self.assertTrue(sheet.same(more, sheet.give("plus", atoms[64], one)))
        self.assertFalse(sheet.same(more, sheet.total(atoms[64::-1])))
        self.assertFalse(sheet.same(sheet.give("minus", more, atoms[64]), one))
        self.assertFalse(sheet.same(more, sheet.give("plus", one, atoms[65])))
        # Products that are put together, or go, are counted behind that.
        self.assertTrue(sheet.same(sheet.give("minus", one, atoms[0]), sheet.total(atoms[1:64])))
        self.assertTrue(sheet.same(sheet.give("plus", one, atoms[3]), sheet.give("plus", atoms[3], other)))
        self.assertEqual(sheet.number(sheet.give("minus", one, other)), 0)
        self.assertEqual(sheet.number(sheet.give("minus", more, sheet.give("plus", atoms[64], other))), 0)

    def test_products_of_times(self):
        sheet = Sheet(17)
        atoms = sheet.atoms
        eight = sheet.total(atoms[:8])
        other, more = sheet.total(atoms[8:16]), sheet.total(atoms[8:17])
        parts = [sheet.give("times", eight, place) for place in atoms[8:16]]
        self.assertTrue(sheet.same(sheet.give("times", eight, other), sheet.total(parts)))
        large = sheet.give("times", eight, more)
        self.assertTrue(sheet.same(large, sheet.give("times", more, eight)))
        self.assertFalse(sheet.same(large, sheet.give("plus", sheet.total(parts), sheet.give("times", eight, atoms[16]))))

    def test_atoms_of_a_product(self):
        sheet = Sheet(9)
        atoms = sheet.atoms
        self.assertTrue(sheet.same(sheet.product(atoms[:8]), sheet.product(atoms[7::-1])))
        nine = sheet.product(atoms)
        self.assertFalse(sheet.same(nine, sheet.product(atoms[::-1])))
        self.assertTrue(sheet.same(nine, sheet.give("times", atoms[8], sheet.product(atoms[7::-1]))))
        self.assertFalse(sheet.same(nine, sheet.give("plus", atoms[8], sheet.product(atoms[:8]))))
        x = atoms[0]
        power = sheet.product([x] * 8)
        square = sheet.give("times", x, x)
        fourth = sheet.give("times", square, square)
        self.assertTrue(sheet.same(power, sheet.give("times", fourth, fourth)))
        self.assertFalse(sheet.same(sheet.give("times", power, x), sheet.give("times", sheet.give("times", fourth, x), fourth)))
        # A product that is too large is an atom, that may stand in others.
        self.assertTrue(sheet.same(sheet.give("minus", sheet.give("plus", nine, x), x), nine))

    def test_digits_with_atoms(self):
        for number, is_sum in ((FORTY - 1, True), (FORTY, False), (1 - FORTY, True), (-FORTY, False)):
            sheet = Sheet(2)
            x, y = sheet.atoms
            times = sheet.give("times", sheet.const(number), x)
            self.assertTrue(sheet.same(times, sheet.give("times", x, sheet.const(number))))
            half = number // 2
            put_together = sheet.give("plus", sheet.give("times", sheet.const(half), x), sheet.give("times", sheet.const(number - half), x))
            self.assertEqual(sheet.same(times, put_together), is_sum, number)
            self.assertEqual(sheet.same(sheet.give("minus", sheet.give("plus", put_together, y), y), put_together), True)
            step = 1 if number > 0 else -1
            ahead = sheet.give("times", sheet.const(number - step), x)
            behind = sheet.give("plus" if step == 1 else "minus", ahead, x)
            self.assertEqual(sheet.same(behind, times), is_sum)

    def test_digits_of_numbers(self):
        sheet = Sheet(1)
        x = sheet.atoms[0]
        root = sheet.const(10 ** 20)
        less = sheet.const(10 ** 20 - 1)
        self.assertEqual(sheet.number(sheet.give("times", root, less)), FORTY - 10 ** 20)
        large = sheet.give("times", root, root)
        self.assertIsNone(sheet.number(large))
        self.assertIsNone(sheet.number(sheet.give("times", root, sheet.const(-10 ** 20))))
        self.assertFalse(sheet.same(large, sheet.const(FORTY)))
        self.assertTrue(sheet.same(large, sheet.give("times", sheet.const(10 ** 20), root)))
        # Of plus and minus, and of a const, a number alone may have any length.
        self.assertEqual(sheet.number(sheet.give("plus", sheet.const(FORTY), sheet.const(FORTY))), 2 * FORTY)
        self.assertEqual(sheet.number(sheet.give("minus", sheet.const(-FORTY), sheet.const(FORTY))), -2 * FORTY)
        self.assertEqual(sheet.number(sheet.const(10 ** 90)), 10 ** 90)
        beside = sheet.give("plus", x, sheet.const(10 ** 90))
        self.assertEqual(sheet.number(sheet.give("minus", beside, x)), 10 ** 90)
        # Of times a number beside products with atoms is as long as it may be, too.
        self.assertFalse(sheet.same(sheet.give("times", beside, sheet.const(2)), sheet.give("plus", beside, beside)))

    def test_times_with_one(self):
        sheet = Sheet(66)
        x = sheet.atoms[0]
        one, minus = sheet.const(1), sheet.const(-1)
        large = sheet.const(10 ** 60)
        beside = sheet.give("plus", x, large)
        many = sheet.total(sheet.atoms)
        for place in (x, large, beside, many, one, minus, sheet.product([x] * 9)):
            for times in (sheet.give("times", place, one), sheet.give("times", one, place)):
                self.assertTrue(sheet.same(times, place))
            turned = sheet.give("times", place, minus)
            self.assertTrue(sheet.same(turned, sheet.give("times", minus, place)))
            self.assertTrue(sheet.same(sheet.give("times", turned, minus), place))
            self.assertEqual(sheet.number(sheet.give("plus", turned, place)), 0)
        self.assertEqual(sheet.number(sheet.give("times", large, minus)), -10 ** 60)
        self.assertEqual(sheet.number(sheet.give("times", minus, minus)), 1)

    def test_minus_is_plus_of_the_turned_one(self):
        sheet = Sheet(65)
        many, last = sheet.total(sheet.atoms[:64]), sheet.atoms[64]
        minus = sheet.const(-1)
        turned = sheet.give("times", last, minus)
        found = sheet.give("minus", many, last)
        self.assertTrue(sheet.same(found, sheet.give("plus", many, turned)))
        self.assertTrue(sheet.same(found, sheet.give("plus", turned, many)))
        self.assertFalse(sheet.same(found, sheet.give("minus", last, many)))
        # The turned one of what is too large is the atom with its sign turned, not the minus the other way round.
        self.assertFalse(sheet.same(sheet.give("times", found, minus), sheet.give("minus", last, many)))
        self.assertTrue(sheet.same(sheet.give("minus", last, many), sheet.give("plus", sheet.give("times", many, minus), last)))

    def test_bounds_of_what_is_compared(self):
        sheet = Sheet(65)
        many, last = sheet.total(sheet.atoms[:64]), sheet.atoms[64]
        zero = sheet.const(0)
        # less is above of the second less the first, which is too large here.
        self.assertTrue(sheet.same(sheet.give("less", last, many), sheet.give("less", zero, sheet.give("minus", many, last))))
        self.assertFalse(sheet.same(sheet.give("less", last, many), sheet.give("less", sheet.give("minus", last, many), zero)))
        # 1 less it has no bounds: that one is not above it is the same as that it is at most 0.
        difference = sheet.give("minus", many, last)
        self.assertTrue(sheet.same(sheet.give("not", sheet.give("less", zero, difference)), sheet.give("atmost", difference, zero)))


class Truths(unittest.TestCase):
    def setUp(self):
        self.sheet = Sheet(2)
        self.x, self.y = self.sheet.atoms

    def holds(self, one, other):
        return self.sheet.same(self.sheet.give(*one), self.sheet.give(*other))

    def test_less_and_atmost(self):
        give, x, y = self.sheet.give, self.x, self.y
        one = self.sheet.const(1)
        below, above = give("less", x, y), give("less", y, x)
        self.assertFalse(self.sheet.same(below, above))
        # a <= b is that b < a is not; of above(t) and above(1 - t) one is 1 less the other.
        self.assertTrue(self.holds(("atmost", x, y), ("not", above)))
        self.assertTrue(self.holds(("atmost", x, y), ("less", x, give("plus", y, one))))
        self.assertEqual(self.sheet.number(give("plus", below, give("atmost", y, x))), 1)
        self.assertEqual(self.sheet.number(give("plus", below, give("less", y, give("plus", x, one)))), 1)
        self.assertTrue(self.holds(("less", give("minus", x, y), self.sheet.const(0)), ("copy", below)))
        self.assertTrue(self.holds(("less", give("minus", x, one), give("minus", y, one)), ("copy", below)))

    def test_zero(self):
        give, x, y = self.sheet.give, self.x, self.y
        zero, minus = self.sheet.const(0), self.sheet.const(-1)
        self.assertTrue(self.holds(("same", x, y), ("same", y, x)))
        self.assertTrue(self.holds(("same", x, zero), ("not", x)))
        self.assertTrue(self.holds(("not", give("times", x, minus)), ("not", x)))
        self.assertTrue(self.holds(("not", give("minus", x, y)), ("same", y, x)))
        self.assertFalse(self.holds(("not", x), ("not", y)))
        self.assertFalse(self.holds(("not", x), ("not", give("plus", x, x))))
        for truth in (give("less", x, y), give("same", x, y), give("not", x), give("atmost", y, x)):
            turned = give("not", truth)
            self.assertEqual(self.sheet.number(give("plus", truth, turned)), 1)
            self.assertTrue(self.sheet.same(give("not", turned), truth))
            self.assertTrue(self.sheet.same(give("same", truth, zero), turned))
            self.assertTrue(self.sheet.same(give("same", zero, truth), turned))
            self.assertTrue(self.sheet.same(give("minus", self.sheet.const(1), truth), turned))
        # A product of a truth and something else, or more than once a truth, is no truth.
        truth = give("less", x, y)
        for other in (give("times", truth, x), give("times", truth, give("same", x, y)), give("plus", truth, truth), give("times", truth, truth)):
            self.assertFalse(self.sheet.same(give("not", other), give("minus", self.sheet.const(1), other)))
        # A number that is no truth is not what it is as a truth.
        self.assertFalse(self.sheet.same(give("not", give("not", x)), x))
        self.assertFalse(self.sheet.same(give("less", zero, give("less", x, y)), give("less", x, y)))

    def test_numbers_are_told(self):
        give, x = self.sheet.give, self.x
        for word, numbers in (("less", (1, 0, 0)), ("atmost", (1, 1, 0)), ("same", (0, 1, 0))):
            for gap, number in zip((1, 0, -1), numbers):
                self.assertEqual(self.sheet.number(give(word, x, give("plus", x, self.sheet.const(gap)))), number)


class Boxes(unittest.TestCase):
    ROWS = (
        ("v10", "const", 4), ("v11", "make", "v", ()), ("v12", "make", "w", ("v0", "v2")), ("v13", "make", "w", ("v0", "v2")),
        ("v14", "make", "w", ("v1", "v2")), ("v15", "part", "w", 0, "v12"), ("v16", "part", "w", 1, "v12"),
        ("v17", "part", "x", 1, "v12"), ("v18", "part", "x", 2, "v12"), ("v19", "tag", "v11"), ("v20", "tag", "v12"),
        ("v21", "tag", "v18"), ("v22", "part", "w", 1, "v18"), ("v23", "part", "w", 0, "v18"), ("v24", "part", "x", 0, "v11"),
        ("v25", "long", "r", "v24"), ("v26", "tag", "v2"), ("v27", "tag", "v16"), ("v28", "part", "w", 1, "v2"), ("v29", "part", "w", 1, "v16"),
        ("v30", "part", "x", 2, "v2"), ("v31", "part", "w", 0, "v2"), ("v32", "new", "r", "v0", "v1"), ("v33", "new", "r", "v0", "v1"),
        ("v34", "long", "r", "v32"), ("v35", "long", "r", "v32"), ("v36", "long", "r", "v33"), ("v37", "at", "r", "v32", "v0"),
        ("v38", "at", "r", "v32", "v0"), ("v39", "over", "v0", "v1"), ("v40", "over", "v0", "v1"), ("v41", "call", "g", ("v0",)),
        ("v42", "call", "g", ("v0",)), ("v43", "copy", "v41"), ("v44", "make", "x", ("v32", "v10", "v12")), ("v45", "part", "x", 2, "v44"),
        ("v46", "part", "w", 1, "v45"), ("v47", "make", "x", ("v32", "v10", "v13")), ("v48", "part", "x", 0, "v44"), ("v49", "tag", "v47"),
        ("v50", "call", "h", ()), ("v51", "part", "y", 0, "v50"), ("v52", "part", "z", 0, "v50"), ("v53", "long", "s", "v51"),
        ("v54", "long", "s", "v52"), ("v55", "part", "w", 0, "v45"), ("v56", "rest", "v0", "v1"), ("v57", "make", "v", ()),
    )
    CODE = ("f", "number", {0: (
        (("v0", "number"), ("v1", "number"), ("v2", "c")), (context("mark", ("f", 0, {})), *ROWS), ("return", "v1"),
    )})

    def test_numbers(self):
        numbers = {"v10": 4, "v17": 0, "v18": 0, "v19": 0, "v20": 1, "v21": 0, "v22": 0, "v23": 0, "v24": 0, "v25": 0, "v49": 2}
        self.assertTrue(is_named(self.CODE, IN_KINDS))
        for row in self.ROWS:
            self.assertEqual(told_number(IN_KINDS, self.CODE, row[0]), numbers.get(row[0]), row)
        self.assertIsNone(told_number(scope=IN_KINDS, code=self.CODE, place="v2"))

    def test_which_are_the_same(self):
        alike = [
            ["v12", "v13", "v45"], ["v0", "v15", "v55"], ["v2", "v16", "v46"], ["v26", "v27"], ["v28", "v29"], ["v34", "v35"], ["v41", "v43"],
            ["v44", "v47"], ["v32", "v48"], ["v11", "v57"], ["v17", "v18", "v19", "v21", "v22", "v23", "v24", "v25"],
        ]
        places = ["v0", "v1", "v2"] + [row[0] for row in self.ROWS]
        for one in places:
            for other in places:
                is_same = one == other or any(one in group and other in group for group in alike)
                self.assertEqual(told_same(scope=IN_KINDS, code=self.CODE, place=one, other=other), is_same, (one, other))


class Blocks(unittest.TestCase):
    def test_parameters_are_atoms(self):
        code = numbers_code("f", {
            0: (["v0"], [("v1", "plus", "v0", "v0")], ("jump", 4, ("v0", "v0"))),
            4: (["v5", "v6"], [("v7", "minus", "v5", "v0")], ("branch", "v7", 2, 3)),
            2: ([], [("v8", "plus", "v5", "v7"), ("v10", "plus", "v8", "v0")], ("jump", 4, ("v8", "v5"))),
            3: ([], [("v9", "plus", "v5", "v5")], ("return", "v9")),
        })
        scope = Sheet.SCOPE
        for one, other, is_same in (
            ("v5", "v6", False), ("v0", "v5", False), ("v8", "v5", False), ("v10", "v9", True), ("v1", "v9", False), ("v7", "v5", False),
        ):
            self.assertEqual(told_same(scope, code, one, other), is_same)
        self.assertIsNone(told_number(scope, code, "v7"))

    def test_rows_stand_in_any_order_of_numbers(self):
        # Block 9 stands ahead of block 3, and place v90 ahead of v2.
        code = numbers_code("f", {
            3: ([], [("v2", "times", "v90", "v90")], ("return", "v2")), 9: ([], [("v90", "const", -3)], ("jump", 3, ())),
            0: (["v0"], [], ("jump", 9, ())),
        })
        self.assertEqual(told_number(Sheet.SCOPE, code, "v2"), 9)


class WrongValues(unittest.TestCase):
    CALLS = (lambda scope, code: told_number(scope, code, None), lambda scope, code: told_same(scope, code, None, None))

    def test_scopes_and_codes(self):
        for call in self.CALLS:
            for thing in odd_values():
                if not isinstance(thing, Scope):
                    self.assertRaises(BadScope, call, thing, None)
                self.assertRaises(BadCode, call, SCOPE, thing)
            self.assertRaises(BadCode, call, SCOPE, PLACED)
            self.assertRaises(BadCode, call, Scope([], {}), NAMED)

    def test_places(self):
        for thing in odd_values() + ["v200", "r0", "v01", ("v1",), ["v1"]]:
            if thing != "v0":
                self.assertRaises(BadPlace, told_number, SCOPE, NAMED, thing)
                self.assertRaises(BadPlace, told_same, SCOPE, NAMED, thing, "v0")
                self.assertRaises(BadPlace, told_same, SCOPE, NAMED, "v0", thing)


if __name__ == "__main__":
    unittest.main()
