"""Points 85 and 86: images, what is read out of them, and spots and addresses."""

import random
import unittest

from bundles import bundle_of, code_bundle, drawn_orders, filler, program_bundles
from code_tools import context
from odd_values import as_bool, as_list, as_number, bent, changed, has_odd_bools, odd_values
from stopanywhere.bits import bits_of, read_bits
from stopanywhere.errors import BadAddress, BadBundle, BadImage, BadLayout, BadOrders, BadSpot
from stopanywhere.images import address_of, image, image_of, is_image, read_image, spot_at, spot_behind
from stopanywhere.layouts import is_layout, least_layout, leaps, plain_orders, size

STILL = context("still", ("f", 7, {}))
# Context rows ahead of rows, ahead of an end with bits, and ahead of one without.
HAND = bundle_of({
    0: ([("r0", "const", 1), STILL, context("back", ("f", 8, {})), ("r1", "copy", "s3"), STILL], ("jump", 2, ())),
    2: ([("r1", "const", 0)], ("branch", "r1", 3, 4)), 3: ([], ("fail", "r0")), 4: ([], ("jump", 3, ())),
}, taken=1)
HAND = ("bundle", 6, (("f", "number", {
    0: (HAND[2][0][2][0][0], (*HAND[2][0][2][0][1][:1], ("s3", "copy", "r0"), *HAND[2][0][2][0][1][1:]), ("jump", 2, ())),
    2: ((), (context("mark", ("f", 2, {})), ("r1", "const", 0)), ("branch", "r1", 3, 4)), 3: ((), (context("mark", ("f", 3, {})),), ("fail", "r0")),
    4: ((), (context("mark", ("f", 4, {})),), ("return", "r0")),
}),), ())


def some_images(rng, many):
    """Triples of a bundle, orders and long leaps, with their images."""
    found = []
    bundles = [bundle for _, bundle in program_bundles(rng, many)] + [code_bundle(rng)[0] for _ in range(2 * many)]
    for bundle in bundles:
        orders = drawn_orders(rng, bundle)
        least = least_layout(bundle, orders)
        told = leaps(bundle, orders)
        more = tuple(sorted({*least, *rng.sample(told, min(len(told), 3))}))
        long = more if is_layout(bundle, orders, more) else least
        found.append((bundle, orders, long, image_of(bundle, orders, long)))
    return found


class Images(unittest.TestCase):
    def test_by_hand(self):
        word, registers, kinds, bits, table = image(HAND)
        self.assertEqual((word, registers, kinds), ("image", 6, ()))
        told = [("copy", "s3", "r0"), ("const", "r0", 1), ("copy", "r1", "s3"), ("const", "r1", 0), ("unless", "r1", ("short", 9)), ("fail", "r0"), ("return",)]
        self.assertEqual(bits, bits_of(6, told))
        starts = [address for address, _ in read_bits(6, bits)]
        blocks = HAND[2][0][2]
        frames = {number: blocks[number][1][0][2] for number in blocks}
        self.assertEqual(table, (("f", "number", (
            (0, (("r0", "number"),), 0, ((0, "mark", frames[0]), (starts[2], "still", STILL[2]), (starts[2], "back", (("f", 8, ()),)), (starts[3], "still", STILL[2]))),
            (2, (), starts[3], ((starts[3], "mark", frames[2]),)), (3, (), starts[5], ((starts[5], "mark", frames[3]),)),
            (4, (), starts[6], ((starts[6], "mark", frames[4]),)),
        )),))
        # Behind the last block that has no bits of its own at its end stands nothing; the number of all bits is told.
        self.assertEqual(len(bits), size(HAND, plain_orders(HAND), ()))

    def test_image_is_by_plain_orders(self):
        rng = random.Random(1)
        for bundle, _, _, _ in some_images(rng, 2):
            orders = plain_orders(bundle)
            self.assertEqual(image(bundle), image_of(bundle, orders, least_layout(bundle, orders)))

    def test_undo_one_another(self):
        rng = random.Random(2)
        for bundle, orders, long, told in some_images(rng, 5):
            self.assertIs(is_image(told), True)
            found = read_image(told)
            self.assertEqual(found, (bundle, orders, long))
            self.assertEqual(list(found[1]), sorted(orders))
            self.assertEqual(image_of(*found), told)
            for code in found[0][2]:
                self.assertEqual(list(code[2]), sorted(code[2]))

    def test_bits_hang_on_the_order_alone(self):
        rng = random.Random(3)
        for bundle, orders, long, told in some_images(rng, 3):
            numbers = {name: {number: 9000 - 7 * at if number else 0 for at, number in enumerate(orders[name])} for name in orders}
            codes = []
            for name, result, blocks in bundle[2]:
                other = {}
                for number, (parameters, rows, end) in blocks.items():
                    rows = [row for at, row in enumerate(rows) if at == 0 or row[1] != "still" or rng.random() < 0.5]
                    if rng.random() < 0.5:
                        rows.append((None, "back", ((name, 3, ()),)))
                    end = tuple(numbers[name][part] if isinstance(part, int) else part for part in end)
                    other[numbers[name][number]] = (parameters, tuple(rows), end)
                codes.append((name, result, other))
            renamed = (*bundle[:2], tuple(codes), bundle[3])
            other_orders = {name: tuple(numbers[name][number] for number in orders[name]) for name in orders}
            other_long = tuple(sorted((name, numbers[name][number], at) for name, number, at in long))
            other = image_of(renamed, other_orders, other_long)
            self.assertEqual(other[3], told[3])
            self.assertEqual([[block[2] for block in part[2]] for part in other[4]], [[block[2] for block in part[2]] for part in told[4]])
            self.assertEqual(read_image(other), (renamed, other_orders, other_long))

    def test_empty(self):
        bundle = ("bundle", 6, (), (("row", "r", "r"),))
        told = image(bundle)
        self.assertEqual(told, ("image", 6, bundle[3], "", ()))
        self.assertTrue(is_image(told))
        self.assertEqual(read_image(told), (bundle, {}, ()))


class BentImages(unittest.TestCase):
    def check(self, other):
        """Whether is_image is right about a value: it is one if what is read out of it makes it."""
        found = is_image(other)
        if found:
            self.assertEqual(image_of(*read_image(other)), other)
        else:
            self.assertRaises(BadImage, read_image, other)
        return found

    def test_by_hand(self):
        told = image(HAND)
        word, registers, kinds, bits, ((name, result, blocks),) = told
        first, second, third, fourth = blocks

        def with_blocks(*others):
            return word, registers, kinds, bits, ((name, result, others),)

        for other in (
            ("bundle", *told[1:]), (word, 5, *told[2:]), (word, 10, *told[2:]), told[:4], (*told, ()), (word, registers, (("row", "r", "zz"),), *told[3:]),
            (word, registers, kinds, bits[:-1], told[4]), (word, registers, kinds, bits + "0", told[4]), (word, registers, kinds, bits + "11000", told[4]),
            (word, registers, kinds, bits, ()), (word, registers, kinds, bits, told[4] * 2), (word, registers, kinds, bits, (("g", result, blocks),)),
            (word, registers, kinds, bits, ((name, "zz", blocks),)), (word, registers, kinds, bits, ((name, result, ()),)),
            with_blocks(first, second, third), with_blocks(first, second, fourth, third), with_blocks(second, first, third, fourth),
            with_blocks(first, (*second[:2], second[2] + 1, second[3]), third, fourth), with_blocks(first, (3, *second[1:]), third, fourth),
            with_blocks((1, *first[1:]), second, third, fourth), with_blocks((0, (), *first[2:]), second, third, fourth),
            with_blocks((*first[:3], first[3][1:]), second, third, fourth), with_blocks((*first[:3], first[3][::-1]), second, third, fourth),
            with_blocks((*first[:3], ((1, *first[3][0][1:]), *first[3][1:])), second, third, fourth),
            with_blocks((*first[:3], ((0, "put", first[3][0][2]), *first[3][1:])), second, third, fourth),
            with_blocks((*first[:3], ((0, "mark", (("g", 0, ()),)), *first[3][1:])), second, third, fourth),
            with_blocks((*first[:3], ((0, "mark", ()), *first[3][1:])), second, third, fourth),
            with_blocks(first, second, third, (*fourth[:3], (*fourth[3], (len(bits), "still", STILL[2])))),
        ):
            self.assertIs(self.check(other), False, other)
        # Another number of a block, or other frames, make another image.
        self.assertTrue(self.check(with_blocks(first, (7, *second[1:]), third, fourth)))
        self.assertTrue(self.check(with_blocks((*first[:3], ((0, "back", (("f", 5, ()), ("zz", 6, ()))), *first[3][1:])), second, third, fourth)))
        self.assertTrue(self.check((word, 7, *told[2:])))
        for thing in odd_values():
            self.assertIs(self.check(thing), False)

    def test_bent_at_any_place(self):
        rng = random.Random(5)
        for bundle, orders, long, told in some_images(rng, 1) + [(HAND, None, None, image(HAND))]:
            for turn in (as_list, as_bool):
                others = list(changed(told, turn))
                for other in rng.sample(others, min(len(others), 25)):
                    self.assertIs(self.check(other), False)
            for turn in (as_number, lambda part: [part + 1] if isinstance(part, int) and not isinstance(part, bool) else []):
                others = list(changed(told, turn))
                for other in rng.sample(others, min(len(others), 25)):
                    self.check(other)

    def test_anything_else_at_any_place(self):
        rng = random.Random(11)
        let = 0
        for other in bent(rng, image(HAND), 700):
            if self.check(other):
                let += 1
                self.assertFalse(has_odd_bools(other))
        self.assertGreater(let, 20)

    def test_turned_bits(self):
        rng = random.Random(6)
        let = 0
        for bundle, orders, long, told in some_images(rng, 1) + [(HAND, None, None, image(HAND))]:
            bits = told[3]
            for at in rng.sample(range(len(bits)), min(len(bits), 70)):
                other = (*told[:3], bits[:at] + str(1 - int(bits[at])) + bits[at + 1:], told[4])
                let += self.check(other)
        # A const of another number is an image, too.
        self.assertGreater(let, 2)


class Spots(unittest.TestCase):
    def check(self, bundle, orders, long, told):
        found = read_bits(bundle[1], told[3])
        addresses = [address for address, _ in found] + [len(told[3])]
        wanted = []
        for name, _, blocks in bundle[2]:
            for number in orders[name]:
                first = address_of(told, (name, number, 0))
                following = [address for part in told[4] for block in part[2] for address in [block[2]] if address > first] + [len(told[3])]
                own = [address for address, _ in found if first <= address < min(following)]
                rows = [at for at, row in enumerate(blocks[number][1]) if row[1] not in ("mark", "back", "still")]
                spots = [(name, number, at) for at in rows]
                spots += [(name, number, len(blocks[number][1]))] * (len(own) - len(rows))
                self.assertGreaterEqual(len(own), len(rows))
                wanted.extend(spots)
                behind = min(following)
                for at in reversed(range(len(blocks[number][1]) + 1)):
                    if (name, number, at) in spots:
                        behind = own[spots.index((name, number, at))]
                    if len(found) < 30 or at % 5 == 0:
                        self.assertEqual(address_of(told, (name, number, at)), behind)
        self.assertEqual(len(wanted), len(found))
        step = 1 + len(wanted) // 25
        for at, spot in list(enumerate(wanted))[::step]:
            self.assertEqual(spot_at(told, addresses[at]), spot)
            self.assertEqual(spot_behind(told, addresses[at + 1]), spot)
        for address in range(len(told[3]) + 2)[:: 9 + len(told[3]) // 40]:
            if address not in addresses[:-1]:
                self.assertRaises(BadAddress, spot_at, told, address)
            if address not in addresses[1:]:
                self.assertRaises(BadAddress, spot_behind, told, address)
        self.assertRaises(BadAddress, spot_behind, told, 0)
        self.assertRaises(BadAddress, spot_at, told, len(told[3]))

    def test_by_hand(self):
        orders = plain_orders(HAND)
        self.check(HAND, orders, (), image(HAND))
        # Both instructions of an end of two belong to it.
        orders = {"f": (0, 2, 4, 3)}
        turned = bundle_of({0: ([], ("branch", "r0", 1, 2)), 1: ([], ("return", "r0")), 2: ([], ("return", "r0")), 3: ([], ("return", "r0"))})
        turned = ("bundle", 6, (("f", "number", {**turned[2][0][2], 1: (*turned[2][0][2][1][:2], ("jump", 3, ()))}),), ())
        told = image_of(turned, {"f": (0, 3, 1, 2)}, ())
        self.assertEqual([spot_at(told, address) for address in (0, 18)], [("f", 0, 1)] * 2)
        self.assertEqual([spot_behind(told, address) for address in (18, 32)], [("f", 0, 1)] * 2)

    def test_random(self):
        rng = random.Random(7)
        for _ in range(3):
            bundle, _ = code_bundle(rng)
            orders = drawn_orders(rng, bundle)
            long = least_layout(bundle, orders)
            self.check(bundle, orders, long, image_of(bundle, orders, long))
        one = bundle_of({0: (filler(2), ("jump", 1, ())), 1: (filler(1), ("jump", 1, ()))})
        self.check(one, {"f": (0, 1)}, (), image(one))


class WrongInputs(unittest.TestCase):
    def test_errors(self):
        orders = plain_orders(HAND)
        told = image(HAND)
        for thing in odd_values():
            self.assertRaises(BadBundle, image, thing)
            self.assertRaises(BadBundle, image_of, thing, 0, 0)
            self.assertRaises(BadOrders, image_of, HAND, thing, 0)
            if thing != ():
                self.assertRaises(BadLayout, image_of, HAND, orders, thing)
            self.assertRaises(BadImage, read_image, thing)
            self.assertRaises(BadImage, spot_at, thing, 0)
            self.assertRaises(BadImage, spot_behind, thing, 0)
            self.assertRaises(BadImage, address_of, thing, 0)
            if thing != 0 or isinstance(thing, bool):
                self.assertRaises(BadAddress, spot_at, told, thing)
            self.assertRaises(BadAddress, spot_behind, told, thing)
            self.assertRaises(BadSpot, address_of, told, thing)
        for spot in (("f", 1, 0), ("f", 0, 8), ("f", 0, -1), ("g", 0, 0), ("f", False, 0), ("f", 0, False), ["f", 0, 0], ("f", 0), ("f", 0, 0, 0)):
            self.assertRaises(BadSpot, address_of, told, spot)
        self.assertRaises(BadLayout, image_of, HAND, orders, (("f", 0, 0),))


if __name__ == "__main__":
    unittest.main()
