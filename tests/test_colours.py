"""Point 72: the most free places that are alive at one spot, and colours for them."""

import random
import unittest

from code_tools import kinds_and_codes, numbers_code, sound_programs
from odd_values import as_bool, changed, odd_values
from random_codes import random_code
from stopanywhere.colours import colours, is_colouring, most
from stopanywhere.errors import BadSlots
from stopanywhere.wanted import alive, carried
from test_wanted import EXAMPLE, order, places_of


def small_codes(rng, many):
    found = [random_code(rng)[0] for _ in range(many)]
    for program in sound_programs(rng, many // 3):
        found.extend(kinds_and_codes(program)[1].values())
    return found


class Colours(unittest.TestCase):
    def test_by_hand(self):
        self.assertEqual(most(code=EXAMPLE, slots=[]), (2, 0, 2))
        self.assertEqual(most(EXAMPLE, ["v0"]), (1, 0, 2))
        self.assertEqual(most(EXAMPLE, ("v0", "v2", "v1")), (0, 0, 0))
        self.assertEqual(colours(code=EXAMPLE, slots=["v0", "v1", "v2"]), {})
        found = colours(EXAMPLE, [])
        self.assertEqual((set(found), found["v0"] + found["v1"]), ({"v0", "v1", "v2"}, 1))
        self.assertTrue(is_colouring(code=EXAMPLE, slots=[], colouring=found))
        # Places that nobody reads are alive behind their rows, and parameters at the first spot.
        code = numbers_code("f", {0: (["v0", "v1"], [("v2", "const", 1), ("v3", "const", 2)], ("return", "v2"))})
        self.assertEqual(most(code, []), (2, 0, 0))
        self.assertEqual(most(code, ["v0", "v1"]), (2, 0, 3))
        self.assertEqual(most(code, ["v2"]), (2, 0, 0))
        self.assertEqual(most(code, ["v2", "v0"]), (1, 0, 0))

    def test_the_first_spot(self):
        code = numbers_code("f", {
            0: (["v0"], [], ("branch", "v0", 9, 4)), 9: ([], [("v1", "const", 1)], ("jump", 5, ("v0", "v1"))),
            4: ([], [("v2", "const", 1)], ("jump", 5, ("v2", "v0"))), 5: (["v3", "v4"], [(None, "show", "v3")], ("return", "v4")),
        })
        self.assertEqual(most(code, []), (2, 4, 2))
        self.assertEqual(most(code, ["v2"]), (2, 5, 0))
        self.assertEqual(most(code, ["v3", "v2"]), (2, 9, 2))

    def test_as_few_as_are_needed(self):
        rng = random.Random(121)
        seen = {}
        for code in small_codes(rng, 60):
            places = places_of(code)
            told = alive(code)
            for slots in ([], list(carried(code)), rng.sample(places, rng.randint(0, len(places)))):
                lists = [(number, index, [place for place in here if place not in slots])
                         for number in sorted(told) for index, here in enumerate(told[number])]
                many, number, index = most(code, slots)
                self.assertEqual(many, max(len(here) for _, _, here in lists))
                self.assertEqual((number, index), [(a, b) for a, b, here in lists if len(here) == many][0])
                found = colours(code, slots)
                self.assertEqual(list(found), [place for place in places if place not in slots])
                self.assertTrue(set(found.values()) <= set(range(many)))
                for _, _, here in lists:
                    self.assertEqual(len({found[place] for place in here}), len(here))
                self.assertIs(is_colouring(code, slots, found), True)
                seen[many] = seen.get(many, 0) + 1
        self.assertGreater(min(seen[many] for many in (0, 1, 2, 3, 5, 8)), 2)

    def test_bent_colourings(self):
        rng = random.Random(122)
        seen = {True: 0, False: 0}
        for code in small_codes(rng, 25):
            slots = rng.sample(places_of(code), min(2, len(places_of(code))))
            found = colours(code, slots)
            many = most(code, slots)[0]
            told = [[place for place in here if place not in slots] for lists in alive(code).values() for here in lists]
            for place in rng.sample(sorted(found), min(6, len(found))):
                for number in range(-1, many + 1):
                    other = {**found, place: number}
                    is_right = 0 <= number < many and all(len({other[one] for one in here}) == len(here) for here in told)
                    self.assertEqual(is_colouring(code, slots, other), is_right)
                    seen[is_right] += 1
                less = {one: found[one] for one in found if one != place}
                for other in (less, {**less, place: None}, {**found, "v9999": 0}, {**found, slots[0]: 0}, {**less, 0: 0}, {**less, place: "0"}, {**less, place: 0.0}):
                    self.assertFalse(is_colouring(code, slots, other))
            turned = {place: found[place] for place in reversed(list(found))}
            self.assertTrue(is_colouring(code, slots, turned))
        self.assertGreater(min(seen.values()), 50)

    def test_any_value(self):
        for thing in odd_values():
            self.assertIs(is_colouring(EXAMPLE, [], thing), False)
            self.assertIs(is_colouring(EXAMPLE, ["v0", "v1", "v2"], thing), isinstance(thing, dict) and not thing)
        found = {"v0": 0, "v1": 1, "v2": 1}
        self.assertTrue(is_colouring(EXAMPLE, [], found))
        for other in changed(found, as_bool):
            self.assertFalse(is_colouring(EXAMPLE, [], other))
        self.assertFalse(is_colouring(EXAMPLE, [], list(found.items())))

    def test_slots(self):
        for call in (most, colours, lambda code, slots: is_colouring(code, slots, None)):
            for thing in odd_values() + [["v3"], ["v0", "v0"], "v0", {"v0": 1}, ["v0", None], [["v0"]], ["r0"], ["v00"], [("v0",)]]:
                if not (isinstance(thing, (list, tuple)) and len(thing) == 0):
                    self.assertRaises(BadSlots, call, EXAMPLE, thing)

    def test_places_stand_in_place_order(self):
        code = numbers_code("f", {0: (["v10", "v9", "v2"], [("v100", "plus", "v2", "v9"), ("v11", "plus", "v100", "v10")], ("return", "v11"))})
        self.assertEqual(list(colours(code, [])), ["v2", "v9", "v10", "v11", "v100"])
        self.assertEqual(list(colours(code, [])), sorted(colours(code, []), key=order))


if __name__ == "__main__":
    unittest.main()
