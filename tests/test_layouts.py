"""Points 82 to 84: bundles laid into bits, layouts, and reasons for long leaps."""

import itertools
import random
import unittest

from bundles import bundle_of, code_bundle, drawn_orders, filler, program_bundles
from code_tools import context
from odd_values import odd_values
from stopanywhere.bits import read_bits
from stopanywhere.errors import BadBundle, BadLayout, BadLeap, BadLong, BadOrders
from stopanywhere.images import image_of
from stopanywhere.layouts import distance, is_layout, is_reasons, least_layout, leaps, meet, plain_orders, reasons, size

FILL = ("r1", "const", 9)
# A const of 9 has 18 bits: five, four and nine.
FILL_BITS = 18
# Block 0 branches to 1 and 2; 1 jumps to 3, 2 jumps to 3, 3 returns.
SMALL = bundle_of({0: ([], ("branch", "r0", 1, 2)), 1: ([("r0", "const", 1)], ("jump", 3, ())), 2: ([("r0", "const", 2)], ("jump", 3, ())),
                   3: ([("r0", "const", 3)], ("return", "r0"))})


def words(bundle, orders, long=None):
    """The instructions of a bundle, leaps as told by the image."""
    long = least_layout(bundle, orders) if long is None else long
    return [told for _, told in read_bits(bundle[1], image_of(bundle, orders, long)[3])]


class Laying(unittest.TestCase):
    def test_plain_orders(self):
        self.assertEqual(plain_orders(SMALL), {"f": (0, 1, 2, 3)})
        rng = random.Random(1)
        for _, bundle in program_bundles(rng, 2):
            told = plain_orders(bundle)
            self.assertEqual(told, {name: tuple(sorted(blocks)) for name, _, blocks in bundle[2]})
            self.assertEqual(list(told), sorted(told))

    def test_ends(self):
        const = [("const", "r0", at) for at in range(4)]
        for order, wanted in (
            # The second block directly behind, the first one, none of them.
            ((0, 2, 1, 3), [("branch", "r0", ("short", 28)), const[2], ("jump", ("short", 12)), const[1], const[3], ("return",)]),
            ((0, 1, 2, 3), [("unless", "r0", ("short", 26)), const[1], ("jump", ("short", 14)), const[2], const[3], ("return",)]),
            ((0, 3, 1, 2), [("branch", "r0", ("short", 33)), ("jump", ("short", 45)), const[3], ("return",), const[1], ("jump", ("short", -45)),
                            const[2], ("jump", ("short", -73))]),
        ):
            self.assertEqual(words(SMALL, {"f": order}), wanted)
        self.assertEqual(leaps(SMALL, {"f": (0, 1, 2, 3)}), [("f", 0, 0), ("f", 1, 0)])
        self.assertEqual(leaps(SMALL, {"f": (0, 3, 1, 2)}), [("f", 0, 0), ("f", 0, 1), ("f", 1, 0), ("f", 2, 0)])

    def test_distances_by_hand(self):
        # unless: 18 bits; const 1: 5 + 4 + 3; jump 14; const 2: 5 + 4 + 5; const 3: 14; return 5.
        orders = {"f": (0, 1, 2, 3)}
        self.assertEqual((distance(SMALL, orders, (), ("f", 0, 0)), size(SMALL, orders, ())), (26, 18 + 12 + 14 + 14 + 14 + 5))
        found = read_bits(6, image_of(SMALL, orders, ())[3])
        addresses = [address for address, _ in found] + [size(SMALL, orders, ())]
        self.assertEqual([told[0] for _, told in found], ["unless", "const", "jump", "const", "const", "return"])
        self.assertEqual(distance(SMALL, orders, (), ("f", 0, 0)), addresses[3] - addresses[1])
        self.assertEqual(distance(SMALL, orders, (), ("f", 1, 0)), addresses[4] - addresses[3])
        # Long leaps have 24 bits more.
        both = (("f", 0, 0), ("f", 1, 0))
        self.assertEqual(size(SMALL, orders, both), size(SMALL, orders, ()) + 48)
        self.assertEqual(distance(SMALL, orders, both, ("f", 0, 0)), distance(SMALL, orders, (), ("f", 0, 0)) + 24)
        self.assertEqual(distance(SMALL, orders, both, ("f", 1, 0)), distance(SMALL, orders, (), ("f", 1, 0)))
        self.assertEqual(image_of(SMALL, orders, both)[3][:51], "10110" "0000" "1" + format(distance(SMALL, orders, both, ("f", 0, 0)), "032b") + "000000000")

    def test_jumps_without_bits(self):
        # A jump to the block laid directly behind has no bits if a row of its block has some.
        for rows, wanted in (([FILL], ["const", "const", "return"]), ([], ["jump", "const", "return"]), ([context("still", ("f", 0, {}))], ["jump", "const", "return"])):
            bundle = bundle_of({0: (rows, ("jump", 1, ())), 1: ([("r0", "const", 1)], ("return", "r0"))})
            self.assertEqual([told[0] for told in words(bundle, {"f": (0, 1)})], wanted)
            self.assertEqual(leaps(bundle, {"f": (0, 1)}), [("f", 0, 0)] if not wanted[0] == "const" else [])

    def test_tries_and_calls(self):
        bundle = bundle_of({0: ([("r0", "call", "f", ("r0",)), FILL], ("try", "f", ("r0",), 1, 2)), 1: ([], ("return", "r0")), 2: ([], ("fail", "r0"))})
        for order, wanted, many in (((0, 1, 2), ["call", "const", "try", "return", "fail"], 3), ((0, 2, 1), ["call", "const", "try", "jump", "fail", "return"], 4)):
            told = words(bundle, {"f": order})
            self.assertEqual([part[0] for part in told], wanted)
            self.assertEqual(leaps(bundle, {"f": order}), [("f", 0, at) for at in range(many)])
            # The call leads to the first bit, from behind its 14 bits; the try's both leaps are told from behind it.
            self.assertEqual(told[0][1], ("short", -14))
            self.assertEqual(told[2][1], ("short", -(14 + FILL_BITS + 23)))
            self.assertEqual(told[2][2], ("short", 5 if many == 3 else 14))

    def test_two_functions(self):
        one = bundle_of({0: ([("r0", "call", "g", ("r0",))], ("return", "r0"))})
        other = ("g", "number", {0: ((("r0", "number"),), (context("mark", ("g", 0, {})),), ("return", "r0"))})
        bundle = ("bundle", 6, (one[2][0], other), ())
        self.assertEqual(words(bundle, plain_orders(bundle)), [("call", ("short", 5)), ("return",), ("return",)])
        turned = ("bundle", 6, (other, one[2][0]), ())
        self.assertEqual(words(turned, plain_orders(bundle)), [("return",), ("call", ("short", -19)), ("return",)])


class Layouts(unittest.TestCase):
    def all_layouts(self, bundle, orders):
        told = leaps(bundle, orders)
        found = []
        for many in range(len(told) + 1):
            for chosen in itertools.combinations(sorted(told), many):
                if all(leap in chosen or -128 <= distance(bundle, orders, chosen, leap) <= 127 for leap in told):
                    found.append(chosen)
        return found

    def few_leaps(self):
        rng = random.Random(4)
        while True:
            bundle, _ = code_bundle(rng)
            orders = drawn_orders(rng, bundle)
            if 2 <= len(leaps(bundle, orders)) <= 7:
                yield bundle, orders

    def test_against_all_lots(self):
        shares = 0
        for (bundle, orders), _ in zip(self.few_leaps(), range(25)):
            told = self.all_layouts(bundle, orders)
            least = least_layout(bundle, orders)
            self.assertIn(least, told)
            for layout in told:
                self.assertLessEqual(set(least), set(layout))
                self.assertLessEqual(size(bundle, orders, least), size(bundle, orders, layout))
                self.assertTrue(is_layout(bundle, orders, layout))
            self.assertEqual(is_layout(bundle, orders, ()), least == ())
            for one, other in itertools.islice(itertools.product(told, told), 0, 400, 17):
                both = meet(bundle, orders, one, other)
                self.assertIn(both, told)
                self.assertEqual(both, tuple(sorted(set(one) & set(other))))
            shares += len(least)
        self.assertGreater(shares, 10)

    def test_bounds(self):
        # One leap ahead over a drawn number of bits, one leap back.
        met = set()
        for many, more, shows in itertools.product(range(5, 7), range(0, 12), range(2)):
            # So many bits lie between: fillers, a const of a longer number, and perhaps a show of nine bits.
            number = 2 ** more
            rows = filler(many) + [("r2", "const", number)] + [(None, "show", "r2")] * shows
            bits = many * FILL_BITS + 9 + 2 * (more + 1) + 1 + 9 * shows
            met |= {bits + 5, -bits - 14}
            ahead = bundle_of({0: ([], ("branch", "r0", 2, 1)), 1: (rows, ("return", "r0")), 2: ([], ("return", "r0"))})
            orders = {"f": (0, 1, 2)}
            far = distance(ahead, orders, (), ("f", 0, 0))
            self.assertEqual(far, bits + 5)
            self.assertEqual(least_layout(ahead, orders), () if far <= 127 else (("f", 0, 0),))
            self.assertEqual(is_layout(ahead, orders, ()), far <= 127)
            back = bundle_of({0: ([FILL], ("jump", 1, ())), 1: (rows, ("jump", 1, ()))})
            far = distance(back, {"f": (0, 1)}, (), ("f", 1, 0))
            self.assertEqual(far, -bits - 14)
            self.assertEqual(least_layout(back, {"f": (0, 1)}), () if far >= -128 else (("f", 1, 0),))
        self.assertLessEqual({127, 128, -128, -129}, met)

    def test_random(self):
        rng = random.Random(6)
        for _, bundle in program_bundles(rng, 4):
            for orders in (plain_orders(bundle), drawn_orders(rng, bundle)):
                told = leaps(bundle, orders)
                least = least_layout(bundle, orders)
                self.assertTrue(is_layout(bundle, orders, least))
                why = reasons(bundle, orders)
                self.assertEqual(tuple(sorted(why)), least)
                self.assertTrue(is_reasons(bundle, orders, why))
                found = words(bundle, orders)
                self.assertEqual(len([leap for part in found for leap in part[1:] if isinstance(leap, tuple) and leap[:1] in (("short",), ("long",))]), len(told))
                for _ in range(3):
                    more = tuple(sorted({*least, *rng.sample(told, min(len(told), 4))}))
                    if is_layout(bundle, orders, more):
                        self.assertEqual(meet(bundle, orders, more, least), least)
                if least:
                    gone = rng.choice(least)
                    self.assertFalse(is_layout(bundle, orders, tuple(leap for leap in least if leap != gone)))

    def test_is_layout_of_any_value(self):
        orders = {"f": (0, 1, 2, 3)}
        both = (("f", 0, 0), ("f", 1, 0))
        for thing, wanted in (
            ((), True), (both, True), (both[:1], True), (both[::-1], False), (both[:1] * 2, False), ([], False), (list(both), False), ((("f", 0, 1),), False),
            ((("f", False, 0),), False), ((("f", 0, False),), False), ((["f", 0, 0],), False), ((("g", 0, 0),), False), ((("f", 0),), False), ((None,), False),
        ):
            self.assertIs(is_layout(SMALL, orders, thing), wanted, thing)
        for thing in odd_values():
            self.assertIs(is_layout(SMALL, orders, thing), thing == ())


class Reasons(unittest.TestCase):
    def test_chains(self):
        # The leap of block 0 is far only when the one in block 1 is long; that one is far by itself.
        bundle = bundle_of({
            0: ([], ("branch", "r0", 2, 1)), 1: (filler(5), ("branch", "r0", 3, 4)), 4: ([], ("return", "r0")), 2: (filler(8), ("return", "r0")),
            3: ([], ("return", "r0")),
        })
        orders = {"f": (0, 1, 4, 2, 3)}
        first, second = ("f", 0, 0), ("f", 1, 0)
        self.assertEqual((distance(bundle, orders, (), first), distance(bundle, orders, (), second)), (5 * 18 + 18 + 5, 5 + 8 * 18 + 5))
        self.assertEqual(distance(bundle, orders, (second,), first), 5 * 18 + 18 + 24 + 5)
        self.assertEqual(least_layout(bundle, orders), (first, second))
        self.assertEqual(reasons(bundle, orders), (second, first))
        for thing, wanted in (
            ((second, first), True), ((first, second), False), ((second,), False), ((), False), ([second, first], False), ((second, first, first), False),
            ((second, second, first), False), ((second, first, ("f", 2, 0)), False), (None, False),
        ):
            self.assertIs(is_reasons(bundle, orders, thing), wanted, thing)

    def test_bent(self):
        rng = random.Random(8)
        bent = 0
        for _, bundle in program_bundles(rng, 4):
            orders = drawn_orders(rng, bundle)
            why = reasons(bundle, orders)
            told = leaps(bundle, orders)
            self.assertIs(is_reasons(bundle, orders, list(why)), False)
            for leap in told:
                if leap not in why:
                    self.assertFalse(is_reasons(bundle, orders, (*why, leap)))
                    bent += 1
                    break
            if why:
                self.assertFalse(is_reasons(bundle, orders, why[:-1]))
                turned = list(why)
                rng.shuffle(turned)
                is_right = all(not -128 <= distance(bundle, orders, tuple(sorted(turned[:at])), leap) <= 127 for at, leap in enumerate(turned))
                self.assertIs(is_reasons(bundle, orders, tuple(turned)), is_right)
        self.assertGreater(bent, 1)
        for thing in odd_values():
            self.assertIs(is_reasons(SMALL, {"f": (0, 1, 2, 3)}, thing), thing == ())


class WrongInputs(unittest.TestCase):
    def test_errors(self):
        orders = {"f": (0, 1, 2, 3)}
        calls = (leaps, least_layout, reasons)
        longer = (is_layout, is_reasons, size)
        for thing in odd_values():
            self.assertRaises(BadBundle, plain_orders, thing)
            for call in calls:
                self.assertRaises(BadBundle, call, thing, 0)
            for call in longer:
                self.assertRaises(BadBundle, call, thing, 0, 0)
            self.assertRaises(BadBundle, distance, thing, 0, 0, 0)
            self.assertRaises(BadBundle, meet, thing, 0, 0, 0)
        for thing in odd_values() + [{"f": (0, 1, 2)}, {"f": (1, 0, 2, 3)}, {"f": [0, 1, 2, 3]}, {"f": (0, 1, 2, 3, 3)}, {"f": (0, 1, 2, 4)}, {"f": (0, True, 2, 3)},
                                     {"f": (False, 1, 2, 3)}, {"f": (0, 1, 2, 3), "g": (0,)}, {"g": (0, 1, 2, 3)}, [("f", (0, 1, 2, 3))]]:
            for call in calls:
                self.assertRaises(BadOrders, call, SMALL, thing)
            for call in longer:
                self.assertRaises(BadOrders, call, SMALL, thing, 0)
            self.assertRaises(BadOrders, distance, SMALL, thing, 0, 0)
            self.assertRaises(BadOrders, meet, SMALL, thing, 0, 0)
        both = (("f", 0, 0), ("f", 1, 0))
        for thing in odd_values() + [both[::-1], list(both), both[:1] * 2, (("f", 2, 0),)]:
            if thing != ():
                self.assertRaises(BadLong, size, SMALL, orders, thing)
                self.assertRaises(BadLong, distance, SMALL, orders, thing, 0)
                self.assertRaises(BadLayout, meet, SMALL, orders, thing, 0)
                self.assertRaises(BadLayout, meet, SMALL, orders, (), thing)
        for thing in odd_values() + [("f", 2, 0), ("f", 0, 1), ["f", 0, 0], ("f", False, 0), ("f", 0, 0, 0)]:
            self.assertRaises(BadLeap, distance, SMALL, orders, (), thing)


if __name__ == "__main__":
    unittest.main()
