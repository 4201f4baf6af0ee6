"""Point 100: heaps, what words of them look like, and moving boxes."""

import random
import unittest

from odd_values import as_bool, as_list, changed, odd_values
from stopanywhere.errors import BadAddresses, BadHeap, BadScope, BadWords
from stopanywhere.forms import Scope
from stopanywhere.heaps import made, moved, pictures, reached

KINDS = [
    ("choice", "c", (("v", ()), ("w", ("number", "truth", "c")), ("x", ("r", "c", "s")))), ("row", "r", "number"),
    ("row", "s", "c"), ("row", "t", "truth"), ("row", "u", "u"), ("choice", "d", (("y", ("e", "number")),)),
]
SCOPE = Scope(KINDS, {})
HEAP = {
    3: ("v", ()), 5: ("w", (7, 1, 3)), 900: ("r", (4, 5, 6)), 2: ("s", (3, 10, 0)), 10: ("x", (900, 5, 2)),
    11: ("u", (11, 12, 0)), 12: ("u", ()), 4: ("t", (1, 0)), 6: ("w", (0, 0, 6)), 7: ("y", (0, 2)),
}


class Made(unittest.TestCase):
    def test_the_least_free_address(self):
        self.assertEqual(made({}, "v", ()), (1, {1: ("v", ())}))
        self.assertEqual(made(heap={1: ("v", ()), 3: ("v", ())}, shape="r", words=(5, 6)), (
            2, {1: ("v", ()), 2: ("r", (5, 6)), 3: ("v", ())},
        ))
        self.assertEqual(made({2: ("v", ()), 1: ("v", ())}, "v", ())[0], 3)
        address, heap = made(HEAP, "u", (4,))
        self.assertEqual((address, heap), (1, {**HEAP, 1: ("u", (4,))}))
        self.assertEqual(list(heap), sorted(heap))

    def test_the_heap_that_is_passed_stays(self):
        heap = {1: ("v", ()), 4: ("v", ())}
        found = made(heap, "v", ())[1]
        found.clear()
        self.assertEqual(heap, {1: ("v", ()), 4: ("v", ())})

    def test_nothing_is_checked(self):
        self.assertEqual(made({5: None}, None, (None, 1.5)), (1, {1: (None, (None, 1.5)), 5: None}))


class Pictures(unittest.TestCase):
    def test_numbers_and_nothing(self):
        self.assertEqual(pictures(SCOPE, {}, []), ((), ()))
        self.assertEqual(pictures(scope=SCOPE, heap={}, words=[("number", -5), ("c", 0), ("r", 0), ("number", 0)]), (
            (-5, None, None, 0), (),
        ))

    def test_choices_and_rows(self):
        self.assertEqual(pictures(SCOPE, HEAP, [("c", 5), ("c", 3)]), ((("w", (7, 1, ("v", ()))), ("v", ())), ()))
        found = pictures(SCOPE, HEAP, [("r", 900), ("c", 10), ("r", 900)])
        self.assertEqual(found, (
            (("row", 0), ("x", (("row", 0), ("w", (7, 1, ("v", ()))), ("row", 1))), ("row", 0)),
            (("r", (4, 5, 6)), ("s", (("v", ()), ("x", (("row", 0), ("w", (7, 1, ("v", ()))), ("row", 1))), None))),
        ))
        self.assertEqual(pictures(SCOPE, HEAP, [("t", 4)]), ((("row", 0),), (("t", (1, 0)),)))

    def test_rows_that_come_to_themselves(self):
        self.assertEqual(pictures(SCOPE, HEAP, [("u", 11)]), (
            (("row", 0),), (("u", (("row", 0), ("row", 1), None)), ("u", ())),
        ))

    def test_rows_are_numbered_by_first_meeting(self):
        heap = {1: ("u", (3, 2)), 2: ("u", ()), 3: ("u", (1, 4)), 4: ("u", (4,)), 9: ("u", ())}
        self.assertEqual(pictures(SCOPE, heap, [("u", 4), ("number", 1), ("u", 1)]), (
            (("row", 0), 1, ("row", 1)),
            (("u", (("row", 0),)), ("u", (("row", 2), ("row", 3))), ("u", (("row", 1), ("row", 0))), ("u", ())),
        ))

    def test_sixty_deep(self):
        heap = {1: ("v", ())}
        for at in range(2, 61):
            heap[at] = ("w", (at, 0, at - 1))
        found, _ = pictures(SCOPE, heap, [("c", 60)])
        picture = found[0]
        for at in range(60, 1, -1):
            self.assertEqual(picture[:1] + picture[1][:2], ("w", at, 0))
            picture = picture[1][2]
        self.assertEqual(picture, ("v", ()))


class Reached(unittest.TestCase):
    def test_order(self):
        self.assertEqual(reached(SCOPE, HEAP, [("c", 10)]), [10, 900, 5, 2, 3])
        self.assertEqual(reached(scope=SCOPE, heap=HEAP, words=[("s", 2), ("number", 900), ("c", 5), ("s", 2), ("c", 0)]), [
            2, 5, 3, 10, 900,
        ])
        self.assertEqual(reached(SCOPE, HEAP, (("u", 11), ("c", 3))), [11, 3, 12])
        self.assertEqual(reached(SCOPE, HEAP, []), [])
        self.assertEqual(reached(SCOPE, HEAP, [("r", 0)]), [])

    def test_boxes_that_come_to_themselves(self):
        self.assertEqual(reached(SCOPE, HEAP, [("c", 6), ("u", 11)]), [6, 11, 12])

    def test_boxes_without_words_do_not_end_it(self):
        heap = {1: ("v", ()), 2: ("s", (1, 3)), 3: ("w", (1, 1, 4)), 4: ("v", ())}
        self.assertEqual(reached(SCOPE, heap, [("c", 1), ("s", 2)]), [1, 2, 3, 4])


class Moved(unittest.TestCase):
    def test_by_hand(self):
        words = [("c", 10), ("number", 10), ("u", 0), ("c", 3)]
        self.assertEqual(reached(SCOPE, HEAP, words), [10, 3, 900, 5, 2])
        found = moved(scope=SCOPE, heap=HEAP, words=words, addresses=[3, 10 ** 9, 1, 900, 10])
        self.assertEqual(found, (
            [("c", 3), ("number", 10), ("u", 0), ("c", 10 ** 9)],
            {3: ("x", (1, 900, 10)), 10 ** 9: ("v", ()), 1: ("r", (4, 5, 6)), 900: ("w", (7, 1, 10 ** 9)),
             10: ("s", (10 ** 9, 3, 0))},
        ))
        self.assertEqual(list(found[1]), sorted(found[1]))
        self.assertEqual(moved(SCOPE, HEAP, [], []), ([], {}))

    def test_boxes_that_come_to_themselves(self):
        self.assertEqual(moved(SCOPE, HEAP, [("u", 11), ("c", 6)], (6, 11, 5)), (
            [("u", 6), ("c", 11)], {6: ("u", (6, 5, 0)), 11: ("w", (0, 0, 11)), 5: ("u", ())},
        ))

    def random_heap(self, rng):
        """A heap of rows of rows and of choices whose parts lie at lesser places of a shuffled row of addresses."""
        addresses = rng.sample(range(1, 40), rng.randint(0, 12))
        shapes = [rng.choice(["v", "w", "x", "r", "s", "t", "u"]) for _ in addresses]
        kinds = {"v": "c", "w": "c", "x": "c"}

        def some(kind, at, is_ahead):
            found = [
                address for other, address in enumerate(addresses)
                if kinds.get(shapes[other], shapes[other]) == kind and (other < at or not is_ahead)
            ]
            return rng.choice(found + [0])

        heap = {}
        for at, (address, shape) in enumerate(zip(addresses, shapes)):
            many = rng.randint(0, 3)
            heap[address] = (shape, {
                "v": (), "w": (rng.randint(-9, 9), 1, some("c", at, True)),
                "x": (some("r", at, True), some("c", at, True), some("s", at, False)),
                "r": tuple(rng.randint(0, 40) for _ in range(many)), "t": (0, 1)[:many],
                "s": tuple(some("c", at, False) for _ in range(many)), "u": tuple(some("u", at, False) for _ in range(many)),
            }[shape])
        words = [
            (kind, some(kind, 99, False)) for kind in rng.choices(["c", "r", "s", "t", "u"], k=rng.randint(0, 4))
        ] + [("number", rng.randint(0, 40))]
        rng.shuffle(words)
        return heap, words

    def test_random_heaps(self):
        rng = random.Random(41)
        seen = 0
        for _ in range(500):
            heap, words = self.random_heap(rng)
            met = reached(SCOPE, heap, words)
            self.assertEqual(len(met), len(set(met)))
            for address in met:
                self.assertIn(address, heap)
            addresses = rng.sample(range(1, 60), len(met))
            other_words, other = moved(SCOPE, heap, words, addresses)
            self.assertEqual(set(other), set(addresses))
            self.assertEqual(reached(SCOPE, other, other_words), addresses)
            self.assertEqual(pictures(SCOPE, other, other_words), pictures(SCOPE, heap, words))
            # Moved back, the boxes that are come to stand as they stood, and no others are left.
            self.assertEqual(moved(SCOPE, other, other_words, met), (words, {at: heap[at] for at in met}))
            seen += len(met)
        self.assertGreater(seen, 400)


class WrongValues(unittest.TestCase):
    CALLS = (pictures, reached, lambda scope, heap, words: moved(scope, heap, words, None))

    def test_scopes(self):
        for call in self.CALLS:
            for thing in odd_values():
                if not isinstance(thing, Scope):
                    self.assertRaises(BadScope, call, thing, None, None)

    def test_heaps(self):
        wrong = [
            {0: ("v", ())}, {-1: ("v", ())}, {True: ("v", ())}, {"1": ("v", ())}, {None: ("v", ())}, {(1,): ("v", ())},
            {1: ["v", ()]}, {1: ("v", [])}, {1: ("v",)}, {1: ("v", (), ())}, {1: ("z", ())}, {1: ("c", ())},
            {1: ("number", ())}, {1: ("r", (True,))}, {1: ("r", (None,))}, {1: ("r", (0,) * 51)}, {1: ("w", (1, 1))},
            {1: ("v", (1,))}, {1: ("w", (1, 1, 0, 0))}, {1: (("v",), ())}, {1: (None, ())}, {1: "v"}, {1: ("e", ())},
            [("v", ())], 5,
        ]
        for thing in odd_values():
            if not (isinstance(thing, dict) and not thing):
                wrong.append(thing)
            wrong.append({1: thing})
            if not (isinstance(thing, tuple) and all(word.__class__ is int for word in thing)):
                wrong.append({1: ("v", ()), 2: ("r", thing)})
        for turn in (as_list, as_bool):
            wrong.extend(changed({1: ("w", (7, 1, 3)), 3: ("v", ()), 4: ("t", (1, 0))}, turn))
        for call in self.CALLS:
            for thing in wrong:
                self.assertRaises(BadHeap, call, SCOPE, thing, None)
        self.assertEqual(reached(SCOPE, {1: ("r", (0,) * 50)}, [("r", 1)]), [1])

    def test_words(self):
        wrong = [
            [("c",)], [("c", 3, 3)], [["c", 3]], [("c", True)], [("number", False)], [("number", None)], [("truth", 1)],
            [("v", 3)], [("z", 0)], [("e", 0)], [(None, 0)], [("c", 900)], [("r", 3)], [("c", 8)], [("c", -1)], [("r", 4)],
            [("t", 900)], {("c", 3): 1}, "c", [("number", 1), 5], [("d", 7)], [("s", 2), ("c", 1)], [(("c",), 0)],
        ]
        for thing in odd_values():
            if not (isinstance(thing, (list, tuple)) and len(thing) == 0):
                wrong.append(thing)
            if thing != ("number", 1):
                wrong.append([thing])
            if thing.__class__ is not int or thing != 0:
                wrong.append([("c", 3), ("c", thing)])
        for call in self.CALLS:
            for thing in wrong:
                self.assertRaises(BadWords, call, SCOPE, HEAP, thing)

    def test_words_within_boxes(self):
        for inner in ((901, 3, 0), (0, 0, 1), (0, 900, 2), (5, 0, 0), (0, 77, 0), (-1, 0, 0)):
            heap = {**HEAP, 1: ("x", inner), 20: ("s", (0, 1))}
            for words in ([("c", 1)], [("number", 2), ("s", 20)]):
                for call in self.CALLS:
                    self.assertRaises(BadWords, call, SCOPE, heap, words)
            # What is not come to is not asked.
            self.assertEqual(reached(SCOPE, heap, [("c", 3)]), [3])
        self.assertRaises(BadWords, reached, SCOPE, {1: ("x", (0, 0, 1))}, [("c", 1)])
        self.assertEqual(reached(SCOPE, {1: ("w", (5, 6, 0))}, [("c", 1)]), [1])

    def test_addresses(self):
        words = [("s", 2), ("c", 5)]
        self.assertEqual(reached(SCOPE, HEAP, words), [2, 5, 3, 10, 900])
        for thing in odd_values() + [
            [1, 2, 3, 4], [1, 2, 3, 4, 5, 6], [1, 2, 3, 4, 4], [0, 1, 2, 3, 4], [-1, 1, 2, 3, 4], [True, 2, 3, 4, 5],
            [1, 2, 3, 4, 10 ** 9 + 1], [1, 2, 3, 4, None], [1, 2, 3, 4, "5"], {1: 1, 2: 2, 3: 3, 4: 4, 5: 5}, "12345", 5,
        ]:
            self.assertRaises(BadAddresses, moved, SCOPE, HEAP, words, thing)
        self.assertRaises(BadAddresses, moved, SCOPE, HEAP, [], None)
        moved(SCOPE, HEAP, words, [1, 2, 3, 4, 10 ** 9])
        moved(SCOPE, HEAP, words, (2, 5, 3, 10, 900))


if __name__ == "__main__":
    unittest.main()
