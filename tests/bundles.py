"""Bundles for tests: of random programs, and of random codes that are placed."""

from code_tools import context, sound_programs
from random_codes import random_code
from stopanywhere.again import build
from stopanywhere.objects import linked
from stopanywhere.placing import placed_code

POINT = context("mark", ("f", 0, {}))


def program_bundles(rng, many):
    """Pairs of random programs and their bundles, for drawn numbers of registers."""
    found = []
    for program in sound_programs(rng, many):
        objects = build(list(program.units), {}, rng.randint(6, 9))[0]
        order = list(objects)
        rng.shuffle(order)
        found.append((program, linked(list(objects.values()), order)))
    return found


def code_bundle(rng):
    """A pair: the bundle of a random code of f, and how many numbers it takes."""
    code, taken = random_code(rng)
    registers = rng.randint(6, 9)
    return ("bundle", registers, (placed_code(code, registers)[0],), ()), taken


def drawn_orders(rng, bundle):
    """Orders with the blocks, but for 0, in any order."""
    found = {}
    for name, _, blocks in sorted(bundle[2], key=lambda code: code[0]):
        others = [number for number in sorted(blocks) if number != 0]
        rng.shuffle(others)
        found[name] = (0, *others)
    return found


def bundle_of(blocks, registers=6, taken=1):
    """A bundle of one code of f over numbers: of each block the rows behind a mark, and the end."""
    found = {}
    tried = {number for _, end in blocks.values() if end[0] == "try" for number in end[3:]}
    for number, (rows, end) in blocks.items():
        many = taken if number == 0 else int(number in tried)
        parameters = tuple((f"r{at}", "number") for at in range(many))
        found[number] = (parameters, (context("mark", ("f", number, {})), *rows), end)
    return "bundle", registers, (("f", "number", found),), ()


def filler(many):
    """Rows of 19 bits each, which do nothing that counts."""
    return [("r1", "const", 9)] * many
