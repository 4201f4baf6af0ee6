"""Points 80 and 81: bits of numbers and of instructions."""

import random
import unittest

from odd_values import odd_values
from stopanywhere.bits import bits_of, count_bits, instruction_at, is_instruction, number_bits, read_bits, read_count, read_number
from stopanywhere.errors import BadAddress, BadBits, BadInstruction, BadNumber, BadRegisters

WORDS = (
    "const copy plus minus times over rest less atmost same not make tag part long new at put show call jump branch unless try return fail"
).split()
LEAPS = [("short", -128), ("short", 127), ("short", 0), ("long", -2 ** 31), ("long", 2 ** 31 - 1), ("long", 5)]
WRONG_LEAPS = [
    ("short", -129), ("short", 128), ("long", -2 ** 31 - 1), ("long", 2 ** 31), ("short", True), ["short", 1], ("short",), ("far", 1), ("short", 1, 1),
    None, "short", 1,
]
NUMBERS = [0, 1, -1, 2, -2, 127, -128, 10 ** 12, -10 ** 12, 10 ** 3999 + 7, -10 ** 3999]


def samples(registers):
    """Right instructions, with each of their parts at its bounds."""
    last = f"r{registers - 1}"
    found = [("const", last, number) for number in NUMBERS]
    found += [("copy", "r0", last), ("copy", "s0", last), ("copy", last, "s999"), ("copy", "r0", "r0")]
    for word in WORDS[2:10]:
        found += [(word, "r0", last, "r1"), (word, last, "r0", last)]
    found += [("not", last, "r0"), ("make", "v", "r0", ()), ("make", "zzzzzzzz", last, ("r0", last, "r1")), ("make", "ab", "r2", (last,))]
    found += [("tag", "r0", last)] + [("part", "w", at, last, "r0") for at in (0, 1, 2)]
    found += [("long", "k", last, "r0"), ("new", "k", "r0", last, "r1"), ("at", "k", last, "r0", "r1"), ("put", "k", "r0", "r1", last), ("show", last)]
    for leap in LEAPS:
        found += [("call", leap), ("jump", leap), ("branch", last, leap), ("unless", "r0", leap), ("try", leap, ("short", 3)), ("try", ("long", 3), leap)]
    return found + [("return",), ("fail", last)]


class Counts(unittest.TestCase):
    def test_examples(self):
        self.assertEqual([count_bits(number) for number in range(4)], ["1", "010", "011", "00100"])
        self.assertEqual((number_bits(5), number_bits(-1), number_bits(0), number_bits(-2)), ("0001011", "010", "1", "00100"))

    def test_written_and_read(self):
        rng = random.Random(1)
        for number in NUMBERS + [rng.randint(-3000, 3000) for _ in range(200)]:
            bits = number_bits(number)
            ahead = rng.choice(["", "1", "0010"])
            self.assertEqual(read_number(ahead + bits + rng.choice(["", "0", "11"]), len(ahead)), (number, len(ahead + bits)))
            self.assertEqual(bits, count_bits(2 * number if number >= 0 else -2 * number - 1))
            if number >= 0:
                told = count_bits(number)
                self.assertEqual(told, "0" * (len(bin(number + 1)) - 3) + bin(number + 1)[2:])
                self.assertEqual(read_count(ahead + told + "1", len(ahead)), (number, len(ahead + told)))
            if len(bits) < 90:
                for at in range(len(bits)):
                    self.assertIsNone(read_number(ahead + bits[:at], len(ahead)))

    def test_none_is_the_beginning_of_another_one(self):
        told = [number_bits(number) for number in range(-40, 41)]
        for one in told:
            self.assertEqual([other for other in told if other.startswith(one)], [one])

    def test_wrong(self):
        for thing in odd_values() + [-1]:
            if not isinstance(thing, int) or isinstance(thing, bool) or thing < 0:
                self.assertRaises(BadNumber, count_bits, thing)
        for thing in odd_values():
            if not isinstance(thing, int) or isinstance(thing, bool):
                self.assertRaises(BadNumber, number_bits, thing)
            if thing != "":
                for call in (read_count, read_number):
                    with self.assertRaises(BadBits) as caught:
                        call(thing, None)
                    self.assertIsNone(caught.exception.at)
        for thing in ("012", "0 1", "\u0661", "1\n", ["0"], 10):
            self.assertRaises(BadBits, read_count, thing, 0)
        for at in (-1, 4, True, False, None, "0", (0,)):
            self.assertRaises(BadNumber, read_count, "010", at)
            self.assertRaises(BadNumber, read_number, "010", at)
        self.assertIsNone(read_count("010", 3))
        self.assertIsNone(read_count("", 0))


class Instructions(unittest.TestCase):
    def test_example(self):
        self.assertEqual(bits_of(6, [("const", "r0", 5), ("return",)]), "00000" "0000" "0001011" "11000")

    def test_bits_by_hand(self):
        for told, bits in (
            (("make", "az", "r3", ("r1", "r2")), "01011" "00001" "11010" "00000" "0011" "10" "0001" "0010"),
            (("part", "b", 2, "r4", "r5"), "01101" "00010" "00000" "10" "0100" "0101"), (("copy", "s2", "r1"), "00001" "1011" "00001"),
            (("copy", "r1", "s0"), "00001" "00001" "11"), (("branch", "r2", ("short", -1)), "10101" "0010" "0" "11111111"),
            (("try", ("short", 1), ("long", -2)), "10111" "000000001" "1" + "1" * 31 + "0"), (("fail", "r0"), "11001" "0000"),
        ):
            self.assertEqual(bits_of(9, [told]), bits)

    def test_numbers(self):
        for at, word in enumerate(WORDS):
            told = [sample for sample in samples(6) if sample[0] == word]
            self.assertTrue(told, word)
            for sample in told:
                self.assertEqual(bits_of(6, [sample])[:5], bin(at + 32)[3:])

    def test_written_and_read(self):
        rng = random.Random(2)
        for registers in (6, 7, 8, 9):
            told = samples(registers)
            for sample in told:
                self.assertIs(is_instruction(registers, sample), True)
                bits = bits_of(registers, [sample])
                self.assertEqual(read_bits(registers, bits), [(0, sample)])
                self.assertEqual(instruction_at(registers, "1" + bits + "0", 1), (sample, 1 + len(bits)))
                if len(bits) < 90:
                    for cut in range(1, len(bits)):
                        with self.assertRaises(BadBits) as caught:
                            read_bits(registers, bits[:cut])
                        self.assertEqual(caught.exception.at, 0)
                        self.assertRaises(BadAddress, instruction_at, registers, bits[:cut], 0)
            for _ in range(20):
                some = [rng.choice(told) for _ in range(rng.randint(0, 8))]
                bits = bits_of(registers, some)
                found = read_bits(registers, bits)
                self.assertEqual([sample for _, sample in found], some)
                for address, sample in found:
                    self.assertEqual(instruction_at(registers, bits, address)[0], sample)
                at = 0
                for address, sample in found:
                    self.assertEqual(address, at)
                    at += len(bits_of(registers, [sample]))

    def test_turned_bits(self):
        for sample in samples(7):
            bits = bits_of(7, [sample])
            for at in range(min(len(bits), 60)):
                turned = bits[:at] + str(1 - int(bits[at])) + bits[at + 1:]
                try:
                    found = read_bits(7, turned)
                except BadBits as error:
                    self.assertLessEqual(error.at, len(turned))
                    continue
                self.assertEqual(bits_of(7, [told for _, told in found]), turned)
                self.assertNotEqual(found, [(0, sample)])

    def test_what_is_no_instruction(self):
        wrong = [("const", "r6", 1), ("const", "s0", 1), ("const", "r0", True), ("const", "r0"), ("const", "r0", 1, 1), ["const", "r0", 1], ("copy", "s0", "s1"),
                 ("copy", "r0", "s1000"), ("copy", "r6", "s1"), ("copy", "s1", "v0"), ("copy", "r0"), ("plus", "r0", "r1"), ("plus", "r0", "r1", "s1"),
                 ("not", "r0", 1), ("make", "V", "r0", ()), ("make", "unit", "r0", ()), ("make", "abcdefghi", "r0", ()), ("make", "v", "r0", ["r1"]),
                 ("make", "v", "r0", ("r0",) * 4), ("make", "v", "r0", ("s1",)), ("part", "w", 3, "r0", "r1"), ("part", "w", -1, "r0", "r1"), ("part", "w", True, "r0", "r1"),
                 ("tag", "r0"), ("put", "k", "r0", "r1", "r9"), ("call", "g"), ("return", "r0"), ("return",)[0], ("fail",), ("halt",), (), (0,), ([],)]
        wrong += [(word, *ahead, leap) for leap in WRONG_LEAPS for word, ahead in (("call", ()), ("jump", ()), ("branch", ("r0",)), ("try", (LEAPS[0],)))]
        wrong += [("try", leap, LEAPS[0]) for leap in WRONG_LEAPS]
        for thing in odd_values() + wrong:
            self.assertIs(is_instruction(6, thing), False, thing)
            with self.assertRaises(BadInstruction) as caught:
                bits_of(6, [("return",), thing])
            self.assertEqual(caught.exception.at, 1)
        self.assertTrue(is_instruction(7, ("const", "r6", 1)))

    def test_what_is_not_read(self):
        # A register that is none, too many parts, a name of no letters, a kept word, a slot that is none.
        for bits, registers in (
            ("10010" "0110", 6), ("11001" "1111", 9), ("11010", 9), ("11111", 9), ("01101" "00010" "00000" "11" "0100" "0101", 9),
            ("01011" "00000" "0011" "00", 9), ("01110" "01001" "00110" "00000" "0000" "0001", 9), ("01110" "11011" "00000" "0000" "0001", 9),
            ("01110" + "00001" * 9 + "00000" "0000" "0001", 9), ("00001" "1" + count_bits(1000) + "00000", 9), ("00001" "11" "11", 9), ("0", 9),
        ):
            with self.assertRaises(BadBits) as caught:
                read_bits(registers, "11000" + bits)
            self.assertEqual(caught.exception.at, 5)
            self.assertRaises(BadAddress, instruction_at, registers, "11000" + bits, 5)
        self.assertEqual(read_bits(7, "10010" "0110"), [(0, ("show", "r6"))])
        self.assertEqual(read_bits(6, ""), [])

    def test_wrong(self):
        for thing in odd_values() + [5, 10]:
            for call in (lambda: is_instruction(thing, 0), lambda: bits_of(thing, 0), lambda: read_bits(thing, 0), lambda: instruction_at(thing, 0, 0)):
                self.assertRaises(BadRegisters, call)
        for thing in odd_values():
            if thing not in ([], ()):
                if not isinstance(thing, (list, tuple)):
                    with self.assertRaises(BadInstruction) as caught:
                        bits_of(6, thing)
                    self.assertIsNone(caught.exception.at)
            if thing != "":
                for call in (lambda: read_bits(6, thing), lambda: instruction_at(6, thing, None)):
                    with self.assertRaises(BadBits) as caught:
                        call()
                    self.assertIsNone(caught.exception.at)
        for address in odd_values() + [-1, 5, 1, 10]:
            if address not in (0,) or isinstance(address, bool):
                self.assertRaises(BadAddress, instruction_at, 6, "11000", address)
        self.assertEqual(bits_of(6, (("return",),)), "11000")


if __name__ == "__main__":
    unittest.main()
