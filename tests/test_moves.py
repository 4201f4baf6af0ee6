"""Point 75: moves at once, and what costs one row more."""

import itertools
import random
import unittest

from odd_values import odd_values
from stopanywhere.errors import BadHelpers, BadPairs
from stopanywhere.moves import moves, openings

HELPERS = ("r6", "r7")


def behind(rows, places):
    """What places hold behind copies, each having held its own name."""
    held = {place: place for place in places}
    for place, word, source in rows:
        assert word == "copy"
        held[place] = held[source]
    return held


def order(place):
    return "rs".index(place[0]), int(place[1:])


def told_openings(pairs):
    """By the words of the point."""
    busy = [(target, source) for target, source in pairs if target != source]
    targets = {source: [t for t, s in busy if s == source] for _, source in busy}
    sources = dict(busy)
    found = [("slots", s) for s in sorted(targets, key=order) if s[0] == "s" and all(t[0] == "s" for t in targets[s])]
    rings = set()
    for first in targets:
        way = [first]
        while way[-1] in sources and sources[way[-1]] not in way:
            way.append(sources[way[-1]])
        if sources.get(way[-1]) == first and len(way) > 1:
            ring = [first] + way[:0:-1]
            at = ring.index(min(ring, key=order))
            rings.add(tuple(ring[at:] + ring[:at]))
    for ring in sorted(rings, key=lambda ring: order(ring[0])):
        opens = False
        for p, q in zip(ring, ring[1:] + ring[:1]):
            outside = [t for t in targets[p] if t not in ring]
            opens = opens or ("slots", p) in found or any(t[0] == "r" for t in outside)
            opens = opens or (p[0] == q[0] == "r" and any(t[0] == "s" for t in outside))
        if not opens:
            found.append(("ring", ring))
    return found


class Moves(unittest.TestCase):
    def check(self, pairs, helpers=HELPERS):
        rows = moves(pairs=pairs, helpers=helpers)
        told = openings(pairs=pairs)
        self.assertEqual(told, told_openings(pairs))
        self.assertIsInstance(rows, list)
        self.assertEqual(len(rows), len([pair for pair in pairs if pair[0] != pair[1]]) + len(told), pairs)
        places = {place for pair in pairs for place in pair} | {f"r{at}" for at in range(9)} | {"s0", "s1", "s998", "s999"}
        table = dict(pairs)
        held = behind(rows, places)
        for place in places - set(helpers):
            self.assertEqual(held[place], table.get(place, place), (pairs, rows))
        for place, _, source in rows:
            self.assertFalse(place[0] == source[0] == "s")
            self.assertIn(place, set(table) | set(helpers))
        return rows

    def test_the_examples(self):
        self.assertEqual(len(self.check([("r0", "r1"), ("r1", "r0")])), 3)
        self.assertEqual(openings([("r1", "r0"), ("r0", "r1")]), [("ring", ("r0", "r1"))])
        self.assertEqual(len(self.check([("s0", "s1"), ("s1", "s0")])), 4)
        self.assertEqual(openings([("s0", "s1"), ("s1", "s0")]), [("slots", "s0"), ("slots", "s1")])
        self.assertEqual(len(self.check([("r0", "r1"), ("r1", "r0"), ("r2", "r0")])), 3)
        self.assertEqual(openings([("r0", "r1"), ("r1", "r0"), ("r2", "r0")]), [])

    def test_by_hand(self):
        self.assertEqual(moves([], HELPERS), [])
        self.assertEqual(openings(()), [])
        self.assertEqual(moves([("r0", "r0"), ("s5", "s5")], HELPERS), [])
        self.assertEqual(openings([("s5", "s5"), ("r1", "r1")]), [])
        self.assertEqual(moves([("r0", "s1")], HELPERS), [("r0", "copy", "s1")])
        for pairs, told in (
            # Slots whose targets are slots alone; the slot itself aside.
            ([("s2", "s1"), ("s3", "s1"), ("s1", "s1")], [("slots", "s1")]), ([("s2", "s1"), ("r3", "s1")], []), ([("s10", "s9"), ("s8", "s10")], [("slots", "s9"), ("slots", "s10")]),
            ([("s2", "r1"), ("s3", "r1")], []), ([("s1", "s0"), ("r0", "s1")], [("slots", "s0")]),
            # Rings that do not open, or open by a slot, by a register outside, by a slot outside between two registers.
            ([("r0", "s0"), ("s0", "r0")], [("ring", ("r0", "s0"))]), ([("r1", "r2"), ("r2", "r3"), ("r3", "r1")], [("ring", ("r1", "r3", "r2"))]),
            ([("r0", "s0"), ("s0", "r0"), ("s1", "r0")], [("ring", ("r0", "s0"))]), ([("r0", "s0"), ("s0", "r0"), ("s1", "s0")], [("ring", ("r0", "s0"))]),
            ([("r0", "s0"), ("s0", "r0"), ("r1", "s0")], []), ([("r0", "r1"), ("r1", "r0"), ("s1", "r0")], []), ([("r0", "r1"), ("r1", "s0"), ("s0", "r0"), ("s1", "r1")], []),
            ([("r0", "s1"), ("s1", "s0"), ("s0", "r0")], [("slots", "s0")]), ([("r5", "r4"), ("r4", "r5"), ("r0", "r1"), ("r1", "r0")], [("ring", ("r0", "r1")), ("ring", ("r4", "r5"))]),
            ([("s11", "s2"), ("s2", "s11"), ("r0", "r1"), ("r1", "r0")], [("slots", "s2"), ("slots", "s11"), ("ring", ("r0", "r1"))]),
        ):
            self.assertEqual(openings(pairs), told, pairs)
            self.check(pairs)
            self.check(pairs[::-1], ("r8", "r6"))

    def test_no_fewer_rows(self):
        """All rows of copies over few places: none with fewer rows does it."""
        rng = random.Random(141)
        for many in range(1, 4):
            for _ in range(25):
                places = rng.sample(["r0", "r1", "r2", "s0", "s1", "s2"], 4)
                targets = rng.sample(places, many)
                pairs = [(target, rng.choice(places)) for target in targets]
                if rng.random() < 0.6 and many > 1:
                    pairs = list(zip(targets, targets[1:] + targets[:1]))
                rows = self.check(pairs)
                self.assertEqual(self.fewest(pairs, places, len(rows)), len(rows), pairs)

    def fewest(self, pairs, places, limit):
        """The fewest copies that do it, by going through all states."""
        table = dict(pairs)
        everything = sorted(places) + list(HELPERS)
        may = [place for place in everything if place in table or place in HELPERS]
        wanted = {place: table.get(place, place) for place in places}
        states = {tuple(everything)}
        met = set(states)
        for many in range(limit + 1):
            for state in states:
                if all(state[everything.index(place)] == wanted[place] for place in places):
                    return many
            further = set()
            for state in states:
                for target, source in itertools.product(may, everything):
                    if not target[0] == source[0] == "s":
                        other = list(state)
                        other[everything.index(target)] = state[everything.index(source)]
                        if tuple(other) not in met:
                            met.add(tuple(other))
                            further.add(tuple(other))
            states = further
        return None

    def test_many_pairs(self):
        rng = random.Random(142)
        seen = {"slots": 0, "ring": 0}
        for _ in range(1500):
            places = [f"r{at}" for at in range(rng.randint(0, 6))] + [f"s{at}" for at in rng.sample(range(1000), rng.randint(1, 7))]
            targets = rng.sample(places, rng.randint(0, len(places)))
            some = rng.sample(places, rng.randint(1, len(places)))
            pairs = {target: rng.choice(some) for target in targets}
            if rng.random() < 0.6:
                ring = rng.sample(places, rng.randint(1, len(places)))
                pairs.update(zip(ring, ring[1:] + ring[:1]))
            listed = list(pairs.items())
            rng.shuffle(listed)
            self.check(listed)
            for opening in openings(listed):
                seen[opening[0]] += 1
        self.assertGreater(min(seen.values()), 100)

    def test_sixty_pairs(self):
        pairs = [(f"s{at}", f"s{at + 1}") for at in range(59)] + [("s59", "s0")]
        self.check(pairs)
        self.check([(f"s{at + 1}", f"s{at}") for at in range(59)])
        self.check([(f"s{at}", "r0") for at in range(59)] + [("r0", "s0")])


class WrongValues(unittest.TestCase):
    def test_pairs(self):
        for call in (openings, lambda pairs: moves(pairs, None)):
            for thing in odd_values() + ["ab", {("r0", "r1"): 1}, [(f"s{at}", "s0") for at in range(61)]]:
                is_items = isinstance(thing, (list, tuple)) and len(thing) < 61
                if not (is_items and len(thing) == 0):
                    with self.assertRaises(BadPairs) as caught:
                        call(thing)
                    self.assertEqual(caught.exception.at, 0 if is_items else None)
                with self.assertRaises(BadPairs) as caught:
                    call([("r0", "r1"), thing, None])
                self.assertEqual(caught.exception.at, 1)
            for pair in (
                ("r9", "r0"), ("r1", "r9"), ("s1000", "r1"), ("r2", "s1000"), ("v0", "r1"), ("r2", "v0"), ("r01", "r1"), ("r2",), ("r2", "r1", "r0"), ["r2", "r1"],
                ("r2", None), (None, "r2"), ("r2", ("r1",)), ("r0", "r3"), ("s1", "s2"), ("", "r1"), "r2", ("r2", 1),
            ):
                with self.assertRaises(BadPairs) as caught:
                    call([("r0", "r1"), ("s1", "r1"), pair, 5])
                self.assertEqual(caught.exception.at, 2)
        self.assertEqual(len(moves([("r8", "s999")], ("r0", "r1"))), 1)

    def test_helpers(self):
        pairs = [("r0", "s3"), ("s1", "r2")]
        for thing in odd_values() + [
            ("r6",), ("r6", "r7", "r8"), ["r6", "r7"], ("r6", "r6"), ("r6", "s9"), ("s9", "r6"), ("r0", "r6"), ("r6", "r2"), ("r6", "r9"), ("v6", "r7"), ("r6", None),
            (None, None), "r6", ("r6", ("r7",)), {"r6": 1, "r7": 2},
        ]:
            self.assertRaises(BadHelpers, moves, pairs, thing)
        self.assertEqual(len(moves(pairs, ("r1", "r8"))), 2)
        self.assertRaises(BadHelpers, moves, [("r6", "r6")], HELPERS)
        self.assertRaises(BadHelpers, moves, [], ("r6", "r6"))

    def test_what_is_passed_is_not_changed(self):
        pairs = [("r0", "r1"), ("r1", "r0"), ("s1", "s0"), ("s2", "s0")]
        before = list(pairs)
        moves(pairs, HELPERS).clear()
        openings(pairs).clear()
        self.assertEqual(pairs, before)
        self.assertEqual(moves(tuple(pairs), HELPERS), moves(pairs, HELPERS))


if __name__ == "__main__":
    unittest.main()
