"""Points 60, 61 and 64: all steps of small codes, asked of steps_of, is_step and refusal, by a test's own reading."""

import random
import unittest

from code_tools import kinds_and_codes, sound_programs
from random_codes import random_code
from stopanywhere.forms import Scope, is_named, scope_of_codes
from stopanywhere.roads import ring_of
from stopanywhere.steps import is_step, refusal, stepped, steps_of
from stopanywhere.terms import told_number, told_same
from stopanywhere.ways import kinds_at
from test_roads import leads, reads_of, reads_of_end, ways_to

PURE = "const copy plus minus times less atmost same not make tag part long".split()


class Reader:
    """What a test reads off a code, by the words of the points."""

    def __init__(self, scope, codes, name):
        self.scope, self.codes, self.name = scope, codes, name
        self.code = codes[name]
        self.blocks = self.code[2]
        self.given = {}
        for number, (parameters, rows, _) in self.blocks.items():
            for place, _ in parameters:
                self.given[place] = (number, -1)
            for index, row in enumerate(rows):
                if row[0] is not None:
                    self.given[row[0]] = (number, index)
        self.asked = {}

    def ways(self, block, shunned):
        if (block, shunned) not in self.asked:
            self.asked[block, shunned] = ways_to(self.code, block, shunned)
        return self.asked[block, shunned]

    def way(self, block, giver, index, at):
        """What refusal tells where a place given at (giver, at) does not stand ahead of (block, index), otherwise None."""
        if giver == block:
            return None if at < index else ("way", ())
        ways = self.ways(block, giver)
        return ("way", min(ways)) if ways else None

    def kind(self, place):
        number, index = self.given[place]
        return kinds_at(self.code, self.scope, (number, index + 1))[place]

    def leading(self, block):
        return sorted(number for number in self.blocks for other in leads(self.blocks[number][2]) if other == block)

    def readers(self, place):
        found = []
        for number in sorted(self.blocks):
            _, rows, end = self.blocks[number]
            for index, places in enumerate([reads_of(row) for row in rows] + [reads_of_end(end)]):
                if place in places:
                    found.append((number, index))
        return found

    def is_there(self, step):
        word, block = step[:2]
        if block not in self.blocks:
            return False
        parameters, rows, _ = self.blocks[block]
        if word in ("fold", "same", "dead", "hoist", "inline") and step[2] > len(rows):
            return False
        if word in ("alike", "twins", "spare") and any(number >= len(parameters) for number in step[2:]):
            return False
        return not (word == "same" and step[3] not in self.given) and not (word == "hoist" and step[3] not in self.blocks)

    def reasons(self, step):
        """All reasons that hold, in their order, as far as what they ask of is there."""
        if not self.is_there(step):
            return [("spot",)]
        return [why for why in getattr(self, step[0])(*step[1:]) if why is not None]

    def row(self, block, index):
        _, rows, end = self.blocks[block]
        return rows[index] if index < len(rows) else (None, "end", end)

    def fold(self, block, index):
        row = self.row(block, index)
        if row[1] == "end":
            place = row[2][1] if row[2][0] == "branch" else None
        else:
            place = row[0] if row[1] in PURE and row[1] != "const" and self.kind(row[0]) == "number" else None
        if place is None:
            return [("row",)]
        return [("unlike",) if told_number(self.scope, self.code, place) is None else None]

    def same(self, block, index, place):
        row = self.row(block, index)
        if row[1] not in PURE or row[0] == place:
            return [("row",)]
        giver, at = self.given[place]
        return [
            self.way(block, giver, index, at), ("kind",) if self.kind(place) != self.kind(row[0]) else None,
            None if told_same(self.scope, self.code, place, row[0]) else ("unlike",),
        ]

    def is_fixed(self, block):
        return block == 0 or any(self.blocks[other][2][0] == "try" for other in self.leading(block))

    def arguments(self, block, number):
        return [(other, self.blocks[other][2][2][number]) for other in self.leading(block)]

    def alike(self, block, number):
        if self.is_fixed(block):
            return [("row",)]
        own = self.blocks[block][0][number][0]
        told = [pair for pair in self.arguments(block, number) if pair[1] != own]
        return [("gives", other) for other, place in told if place != told[0][1]]

    def twins(self, block, number, other):
        if self.is_fixed(block) or number >= other:
            return [("row",)]
        (one, kind), (two, twin) = self.blocks[block][0][number], self.blocks[block][0][other]
        found = [("kind",)] if kind != twin else []
        for (source, a), (_, b) in zip(self.arguments(block, number), self.arguments(block, other)):
            if a != b and {a, b} != {one, two}:
                found.append(("gives", source))
        return found

    def spare(self, block, number):
        if self.is_fixed(block):
            return [("row",)]
        own = self.blocks[block][0][number][0]
        found = []
        for source, index in self.readers(own):
            end = self.blocks[source][2]
            is_own = index == len(self.blocks[source][1]) and end[0] == "jump" and end[1] == block
            if not is_own or [at for at, place in enumerate(end[2]) if place == own] != [number]:
                found.append(("read", (source, index)))
        return found

    def dead(self, block, index):
        row = self.row(block, index)
        if row[1] in PURE:
            return [("read", spot) for spot in self.readers(row[0])]
        is_still = row[1] == "still" and self.row(block, index + 1)[1] in ("mark", "back", "still")
        return [None if is_still else ("row",)]

    def hoist(self, block, index, to):
        row = self.row(block, index)
        if row[1] not in PURE or to == block:
            return [("row",)]
        found = [self.way(block, to, 0, 0)]
        for place in reads_of(row):
            giver, _ = self.given[place]
            found.append(None if giver == to else self.way(to, giver, 0, 0))
        return found

    def merge(self, block):
        leading = self.leading(block)
        is_row = block == 0 or (len(leading) == 1 and (self.blocks[leading[0]][2][0] != "jump" or leading == [block]))
        return [("row",) if is_row else None, ("ends", tuple(leading)) if len(leading) > 1 else None]

    def inline(self, block, index):
        row = self.row(block, index)
        if row[1] != "call" or row[2] not in self.codes:
            return [("row",)]
        ring = ring_of(self.scope, self.codes, row[2])
        return [None if ring is None else ("ring", ring)]

    def all_steps(self):
        """All steps over what is there, and a little more."""
        found = []
        numbers = sorted(self.blocks) + [max(self.blocks) + 1]
        places = sorted(self.given) + ["v9999"]
        for block in numbers:
            parameters, rows, _ = self.blocks.get(block, ((), (), ()))
            found.append(("merge", block))
            for index in range(len(rows) + 2):
                found.extend([("fold", block, index), ("dead", block, index), ("inline", block, index)])
                found.extend(("same", block, index, place) for place in places)
                found.extend(("hoist", block, index, to) for to in numbers)
            for number in range(len(parameters) + 1):
                found.extend([("alike", block, number), ("spare", block, number)])
                found.extend(("twins", block, number, other) for other in range(len(parameters) + 1))
        return found


class AllSteps(unittest.TestCase):
    def asked(self, rng, scope, codes, name, many, seen):
        reader = Reader(scope, codes, name)
        may = {step for word in "fold same alike twins spare dead hoist merge inline".split() for step in steps_of(scope, codes, name, word)}
        steps = reader.all_steps()
        self.assertEqual(may - set(steps), set())
        by_word = {}
        for step in steps:
            by_word.setdefault(step[0], []).append(step)
        chosen = [step for word in by_word for step in rng.sample(by_word[word], min(many, len(by_word[word])))]
        for step in chosen + rng.sample(sorted(may, key=repr), min(many, len(may))):
            reasons = reader.reasons(step)
            told = refusal(scope, codes, name, step)
            if step[0] != "inline" or told != ("large",):
                self.assertEqual(told, reasons[0] if reasons else None, step)
            self.assertEqual(is_step(scope, codes, name, step), told is None)
            self.assertEqual(step in may, told is None, step)
            seen[step[0], told and told[0]] = seen.get((step[0], told and told[0]), 0) + 1
        return sorted(may)

    def test_codes_with_joins(self):
        rng = random.Random(91)
        seen = {}
        done = 0
        while done < 35:
            code, taken = random_code(rng)
            if sum(len(block[1]) for block in code[2].values()) > 40:
                continue
            done += 1
            scope = Scope([], {"f": (("number",) * taken, "number")})
            may = self.asked(rng, scope, {"f": code}, "f", 12, seen)
            for step in rng.sample(may, min(3, len(may))):
                found, _ = stepped(scope, {"f": code}, "f", step)
                self.assertTrue(is_named(found, scope), step)
                self.asked(rng, scope, {"f": found}, "f", 2, seen)
        for key in (
            ("fold", None), ("fold", "unlike"), ("same", None), ("same", "way"), ("same", "unlike"), ("alike", None), ("alike", "gives"),
            ("alike", "row"), ("twins", None), ("twins", "gives"), ("twins", "row"), ("spare", None), ("spare", "read"), ("dead", None), ("dead", "read"),
            ("hoist", None), ("hoist", "way"), ("hoist", "row"), ("merge", None), ("merge", "ends"), ("merge", "row"), ("fold", "spot"),
        ):
            self.assertGreater(seen.get(key, 0), 3, key)

    def test_programs(self):
        rng = random.Random(92)
        seen = {}
        for program in sound_programs(rng, 12):
            kinds, codes = kinds_and_codes(program)
            scope = scope_of_codes(kinds, list(codes.values()))
            for name in rng.sample(sorted(codes), min(2, len(codes))):
                if sum(len(block[1]) for block in codes[name][2].values()) < 60:
                    self.asked(rng, scope, codes, name, 6, seen)
        for key in (("same", "kind"), ("inline", None), ("inline", "row"), ("hoist", None), ("fold", None), ("dead", None)):
            self.assertGreater(seen.get(key, 0), 0, key)


class Orders(unittest.TestCase):
    def test_steps_are_ascending(self):
        rng = random.Random(93)
        for program in sound_programs(rng, 10):
            kinds, codes = kinds_and_codes(program)
            scope = scope_of_codes(kinds, list(codes.values()))
            for name in codes:
                for word in ("fold", "same", "hoist", "dead", "merge", "inline", "spare"):
                    found = steps_of(scope, codes, name, word)
                    self.assertEqual(found, sorted(set(found)))
                    self.assertTrue(all(step[0] == word for step in found))


if __name__ == "__main__":
    unittest.main()
