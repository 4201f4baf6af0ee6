"""Points 73 and 74: spans that are left out at the least cost, prices, and places that lie in slots."""

import itertools
import random
import unittest

from code_tools import context, kinds_and_codes, numbers_code, sound_programs
from odd_values import as_bool, changed, odd_values
from random_codes import random_code
from stopanywhere.errors import BadPrices, BadRoom, BadSpans, NotStraight
from stopanywhere.spills import least, prices_of, slots, spans_of, worth
from stopanywhere.wanted import alive, carried
from test_wanted import order, places_of, read_by, row_reads

EXAMPLE = [(0, 4, 2), (1, 2, 5), (2, 6, 1)]


def has_room(spans, kept, room):
    return all(sum(1 for at in kept if spans[at][0] <= position <= spans[at][1]) <= room for first, last, _ in spans for position in (first, last))


def told_worth(spans, room, prices):
    """What prices are worth, position by position and span by span."""
    found = 0
    for position, price in enumerate(prices):
        found += price * (sum(1 for first, last, _ in spans if first <= position <= last) - room)
    for first, last, cost in spans:
        found -= max(0, sum(prices[first:last + 1]) - cost)
    return found


class Least(unittest.TestCase):
    def check(self, spans, room):
        left, prices = least(spans=spans, room=room)
        kept = [at for at in range(len(spans)) if at not in left]
        self.assertEqual(left, sorted(set(left) & set(range(len(spans)))))
        self.assertTrue(has_room(spans, kept, room))
        self.assertFalse(any(has_room(spans, kept + [at], room) for at in left))
        cost = sum(spans[at][2] for at in left)
        self.assertEqual(len(prices), max([last for _, last, _ in spans], default=-1) + 1)
        self.assertTrue(all(price.__class__ is int and price >= 0 for price in prices))
        self.assertEqual(worth(spans=spans, room=room, prices=prices), cost)
        self.assertEqual(told_worth(spans, room, prices), cost)
        return cost

    def test_the_example(self):
        left, prices = least(EXAMPLE, 1)
        self.assertEqual(left, [0, 2])
        self.assertEqual(worth(EXAMPLE, 1, prices), 3)
        self.assertEqual(worth(EXAMPLE, 1, [0, 0, 2, 0, 0, 0, 0]), 3)
        self.assertEqual(self.check(EXAMPLE, 1), 3)
        self.assertEqual([self.check(EXAMPLE, room) for room in (0, 2, 3)], [8, 1, 0])
        self.assertEqual(least([], 3), ([], []))
        self.assertEqual(least((), 0), ([], []))

    def test_all_choices(self):
        rng = random.Random(131)
        for _ in range(400):
            many = rng.randint(0, 7)
            spans = []
            for _ in range(many):
                first = rng.randint(0, 6)
                spans.append((first, rng.randint(first, 7), rng.choice([0, 0, 1, 1, 2, 3, 5, 9])))
            room = rng.randint(0, 3)
            best = min(
                sum(spans[at][2] for at in range(many) if at not in kept)
                for size in range(many + 1) for kept in itertools.combinations(range(many), size) if has_room(spans, kept, room)
            )
            self.assertEqual(self.check(spans, room), best)
            for _ in range(5):
                prices = [rng.choice([0, 0, 1, 2, 5]) for _ in range(rng.randint(0, 10))]
                self.assertEqual(worth(spans, room, prices), told_worth(spans, room, prices))
                self.assertLessEqual(worth(spans, room, prices), best)

    def test_equal_costs_and_no_costs(self):
        rng = random.Random(132)
        for _ in range(60):
            for costs in ((0,), (1,), (0, 1), (0, 10 ** 11)):
                spans = []
                for _ in range(rng.randint(1, 25)):
                    first = rng.randint(0, 20)
                    spans.append((first, rng.randint(first, 20), rng.choice(costs)))
                for room in (0, 1, 2, 20):
                    cost = self.check(spans, room)
                    if room == 0:
                        self.assertEqual(cost, sum(span[2] for span in spans))
                    if room == 20 and len(spans) <= 20:
                        self.assertEqual(cost, 0)

    def test_many_spans(self):
        rng = random.Random(133)
        for length in (3, 100, 999):
            spans = []
            for _ in range(400):
                first = rng.randint(0, 999)
                spans.append((first, min(999, first + rng.randint(0, length)), rng.randint(0, 30)))
            costs = [self.check(spans, room) for room in (0, 1, 7, 20)]
            self.assertEqual(costs, sorted(costs, reverse=True))

    def test_wrong_spans(self):
        for call in (lambda spans: least(spans, None), lambda spans: worth(spans, None, None)):
            for thing in odd_values() + ["ab", {0: (0, 1, 2)}, [(0, 0, 0)] * 401]:
                is_items = isinstance(thing, (list, tuple)) and len(thing) < 401
                if not (is_items and len(thing) == 0):
                    with self.assertRaises(BadSpans) as caught:
                        call(thing)
                    self.assertEqual(caught.exception.at, 0 if is_items else None)
                with self.assertRaises(BadSpans) as caught:
                    call([(0, 1, 2), thing, None])
                self.assertEqual(caught.exception.at, 1)
            for span in (
                (1, 0, 5), (-1, 0, 5), (0, 1000, 5), (0, 1, -1), (0, 1), (0, 1, 2, 3), [0, 1, 2], (None, 1, 2), (0, None, 2), (0, 1, None), ("0", 1, 2), (0, 1, 2.0),
                (1000, 1000, 1), *changed((0, 1, 1), as_bool),
            ):
                with self.assertRaises(BadSpans) as caught:
                    call([EXAMPLE[0], EXAMPLE[1], span])
                self.assertEqual(caught.exception.at, 2)
        self.assertEqual(len(least([(999, 999, 10 ** 12)] * 400, 20)[0]), 380)

    def test_wrong_rooms_and_prices(self):
        for thing in odd_values() + [-1, 21, 1.0, "1"]:
            if not (thing.__class__ is int and 0 <= thing <= 20):
                self.assertRaises(BadRoom, least, EXAMPLE, thing)
                self.assertRaises(BadRoom, worth, EXAMPLE, thing, None)
        for thing in odd_values() + [[-1], [True], [None], [0, "1"], [0] * 1001, {0: 1}, "01", [1.0], [[1]]]:
            is_right = isinstance(thing, (list, tuple)) and len(thing) < 1001 and all(price.__class__ is int and price >= 0 for price in thing)
            if not is_right:
                self.assertRaises(BadPrices, worth, EXAMPLE, 1, thing)
        self.assertEqual(worth(EXAMPLE, 1, [0] * 1000), 0)
        self.assertEqual(worth(EXAMPLE, 1, (5,)), -3)
        self.assertEqual(worth(EXAMPLE, 1, []), 0)
        self.assertEqual(worth(EXAMPLE, 20, [0] * 8 + [3]), -60)


def straight_code(rng):
    """Code of one block over numbers, with calls."""
    held = [f"v{at}" for at in range(rng.randint(1, 3))]
    parameters = list(held)
    rows = []
    for at in range(rng.randint(0, 25)):
        place = f"v{10 + (at * 7) % 100}"
        some = [rng.choice(held) for _ in range(2)]
        roll = rng.random()
        if roll < 0.15:
            rows.append((place, "call", "f", tuple(rng.choice(held) for _ in parameters)))
        elif roll < 0.3:
            rows.append((None, "show", some[0]))
            continue
        elif roll < 0.4:
            rows.append(context("still", ("f", 0, {"x": some[0]})))
            continue
        else:
            rows.append((place, rng.choice(["plus", "minus", "less"]), *some))
        held.append(place)
    return numbers_code("f", {0: (parameters, rows, (rng.choice(["return", "fail"]), rng.choice(held)))})


class Slots(unittest.TestCase):
    def check(self, code, room):
        """The keys with their reasons, whatever keys were chosen."""
        found = slots(code=code, room=room)
        told = alive(code)
        kept = carried(code)
        self.assertEqual(list(found), sorted(found, key=order))
        self.assertTrue(set(kept) <= set(found) <= set(places_of(code)))
        beside = {
            (number, index): [place for place in here if place not in found]
            for number in sorted(told) for index, here in enumerate(told[number])
        }
        self.assertTrue(all(len(here) <= room for here in beside.values()))
        for place, reason in found.items():
            if place in kept:
                self.assertEqual(reason, ("call",) + kept[place])
            else:
                full = [spot for spot in beside if place in told[spot[0]][spot[1]] and len(beside[spot]) == room]
                self.assertEqual(reason, ("full",) + full[0])
        return found

    def test_codes_of_several_blocks(self):
        rng = random.Random(134)
        seen = {"call": 0, "full": 0}
        codes = [random_code(rng)[0] for _ in range(40)]
        for program in sound_programs(rng, 10):
            codes.extend(kinds_and_codes(program)[1].values())
        for code in codes:
            for room in (1, rng.randint(2, 5), 6, 20):
                for reason in self.check(code, room).values():
                    seen[reason[0]] += 1
        self.assertGreater(min(seen.values()), 100)

    def test_straight_code(self):
        rng = random.Random(135)
        full = 0
        for _ in range(60):
            code = straight_code(rng)
            for room in (1, 2, 3, 20):
                found = self.check(code, room)
                reads = [row_reads(row) for row in code[2][0][1]] + [read_by(code[2][0][2][1:])]
                told = alive(code)[0]
                spans = []
                for place in places_of(code):
                    if place not in carried(code):
                        here = [index for index, places in enumerate(told) if place in places]
                        spans.append((place, (here[0], here[-1], sum(place in places for places in reads))))
                self.assertEqual(spans_of(code=code), spans)
                cost = sum(span[2] for place, span in spans if place in found)
                prices = prices_of(code=code, room=room)
                self.assertEqual(worth([span for _, span in spans], room, prices), cost)
                self.assertEqual(len(prices), max([span[1] for _, span in spans], default=-1) + 1)
                self.assertEqual(sum(spans[at][1][2] for at in least([span for _, span in spans], room)[0]), cost)
                full += len([reason for reason in found.values() if reason[0] == "full"])
        self.assertGreater(full, 100)

    def test_by_hand(self):
        code = numbers_code("f", {0: (["v0", "v1"], [("v2", "const", 5), (None, "show", "v0"), ("v3", "plus", "v1", "v2"), ("v5", "const", 1)], ("return", "v3"))})
        self.assertEqual(spans_of(code), [("v0", (0, 2, 1)), ("v1", (0, 3, 1)), ("v2", (2, 3, 1)), ("v3", (4, 5, 1)), ("v5", (5, 5, 0))])
        self.assertEqual(slots(code, 3), {})
        self.assertEqual(set(slots(code, 2)) <= {"v0", "v1", "v2"}, True)
        self.assertEqual(len(slots(code, 2)), 1)
        # v5 costs nothing, so it is the one that lies in a slot beside v3.
        self.assertEqual(slots(code, 1)["v5"], ("full", 0, 5))
        calls = numbers_code("f", {0: (["v0", "v1"], [("v2", "call", "f", ("v0", "v1")), ("v3", "plus", "v2", "v0")], ("return", "v3"))})
        self.assertEqual(slots(calls, 1), {"v0": ("call", 0, 1)})
        self.assertEqual(spans_of(calls), [("v1", (0, 1, 1)), ("v2", (2, 2, 1)), ("v3", (3, 3, 1))])

    def test_many_spans_of_code(self):
        rows = [(f"v{at}", "plus", f"v{max(0, at - 9)}", "v0") for at in range(1, 700)]
        code = numbers_code("f", {0: (["v0"], rows, ("return", "v690"))})
        found = slots(code, 4)
        spans = spans_of(code)
        self.assertEqual(len(spans), 700)
        cost = sum(span[2] for place, span in spans if place in found)
        self.assertEqual(told_worth([span for _, span in spans], 4, prices_of(code, 4)), cost)

    def test_errors(self):
        several = numbers_code("f", {0: (["v0"], [], ("jump", 1, ())), 1: ([], [], ("return", "v0"))})
        one = numbers_code("f", {0: (["v0"], [], ("return", "v0"))})
        for thing in odd_values() + [0, -1, 21, "1", 1.0]:
            if not (thing.__class__ is int and 1 <= thing <= 20):
                for code in (several, one):
                    self.assertRaises(BadRoom, slots, code, thing)
                    self.assertRaises(BadRoom, prices_of, code, thing)
        self.assertRaises(NotStraight, spans_of, several)
        self.assertRaises(NotStraight, prices_of, several, 20)
        self.assertEqual((slots(one, 20), prices_of(one, 1), spans_of(one)), ({}, prices_of(one, 1), [("v0", (0, 1, 1))]))
        self.assertEqual(sum(prices_of(one, 1)), 0)


if __name__ == "__main__":
    unittest.main()
