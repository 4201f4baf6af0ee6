"""Point 62: stories of rows."""

import unittest

from code_tools import context
from odd_values import odd_values
from stopanywhere.errors import BadCode, BadScope, BadSpot
from stopanywhere.forms import Scope
from stopanywhere.stories import story
from test_forms import NAMED, PLACED, SCOPE
from test_terms import IN_KINDS


class Stories(unittest.TestCase):
    def code(self, rows):
        head = [("v10", "const", 1), ("v11", "const", -1), ("v12", "const", 5), ("v13", "const", 0), ("v14", "plus", "v12", "v13"),
                ("v15", "copy", "v12")]
        return ("f", "number", {0: (
            (("v0", "number"), ("v1", "number"), ("v2", "c")), (context("mark", ("f", 0, {})), *head, *rows), ("return", "v0"),
        )})

    def story_of(self, *row):
        return story(IN_KINDS, self.code([("v90", *row)]), (0, 7))

    def test_each_row(self):
        for row, told in (
            (("const", -12), ("is", -12)), (("const", 0), ("is", 0)), (("copy", "v0"), ("of", "v0", 1, 0)), (("copy", "v2"), ("of", "v2", 1, 0)),
            (("copy", "v12"), ("of", "v12", 1, 0)),
            # One side const, then both, then none.
            (("plus", "v0", "v12"), ("of", "v0", 1, 5)), (("plus", "v12", "v0"), ("of", "v0", 1, 5)), (("plus", "v0", "v13"), ("of", "v0", 1, 0)),
            (("plus", "v12", "v11"), ("of", "v12", 1, -1)), (("plus", "v11", "v12"), ("of", "v11", 1, 5)), (("plus", "v0", "v1"), None),
            (("plus", "v0", "v0"), None), (("plus", "v12", "v12"), ("of", "v12", 1, 5)),
            (("minus", "v0", "v12"), ("of", "v0", 1, -5)), (("minus", "v12", "v0"), ("of", "v0", -1, 5)), (("minus", "v0", "v11"), ("of", "v0", 1, 1)),
            (("minus", "v12", "v10"), ("of", "v12", 1, -1)), (("minus", "v13", "v0"), ("of", "v0", -1, 0)), (("minus", "v0", "v1"), None),
            (("minus", "v0", "v13"), ("of", "v0", 1, 0)),
            (("times", "v0", "v10"), ("of", "v0", 1, 0)), (("times", "v10", "v0"), ("of", "v0", 1, 0)), (("times", "v0", "v11"), ("of", "v0", -1, 0)),
            (("times", "v11", "v0"), ("of", "v0", -1, 0)), (("times", "v0", "v12"), None), (("times", "v12", "v0"), None),
            (("times", "v0", "v13"), None), (("times", "v12", "v11"), ("of", "v12", -1, 0)), (("times", "v11", "v12"), ("of", "v12", -1, 0)),
            (("times", "v10", "v11"), ("of", "v10", -1, 0)), (("times", "v11", "v10"), ("of", "v11", 1, 0)), (("times", "v12", "v13"), None),
            (("times", "v0", "v1"), None),
            # A sum that comes to a number, or a copy of a const, is no const.
            (("plus", "v0", "v14"), None), (("plus", "v14", "v0"), None), (("minus", "v0", "v15"), None), (("plus", "v14", "v12"), ("of", "v14", 1, 5)),
            (("make", "v", ()), ("make", "v", ())),
            (("make", "w", ("v12", "v2")), ("make", "w", (("of", "v12", 1, 0), ("of", "v2", 1, 0)))),
            (("less", "v0", "v12"), None), (("atmost", "v0", "v12"), None), (("same", "v0", "v12"), None), (("not", "v12"), None),
            (("tag", "v2"), None), (("part", "w", 0, "v2"), None), (("over", "v0", "v12"), None), (("rest", "v12", "v10"), None),
            (("new", "r", "v10", "v10"), None), (("call", "g", ("v12",)), None), (("call", "h", ()), None),
        ):
            self.assertEqual(self.story_of(*row), told, row)

    def test_rows_of_rows(self):
        code = self.code([("v80", "new", "r", "v10", "v10"), ("v81", "long", "r", "v80"), ("v82", "at", "r", "v80", "v13")])
        for at in (7, 8, 9):
            self.assertIsNone(story(scope=IN_KINDS, code=code, spot=(0, at)))

    def test_consts_in_other_blocks(self):
        code = ("f", "number", {
            0: ((("v0", "number"), ("v1", "number"), ("v2", "c")), (context("mark", ("f", 0, {})), ("v7", "const", 9)), ("jump", 4, ("v7",))),
            4: ((("v8", "number"),), (context("mark", ("f", 1, {})), ("v9", "minus", "v7", "v8"), ("v10", "plus", "v8", "v1")), ("return", "v9")),
        })
        self.assertEqual(story(IN_KINDS, code, (4, 1)), ("of", "v8", -1, 9))
        # A parameter is no const, whatever is given for it.
        self.assertIsNone(story(IN_KINDS, code, (4, 2)))

    def test_wrong_values(self):
        for thing in odd_values():
            if not isinstance(thing, Scope):
                self.assertRaises(BadScope, story, thing, None, None)
            self.assertRaises(BadCode, story, SCOPE, thing, None)
            self.assertRaises(BadSpot, story, SCOPE, NAMED, thing)
        self.assertRaises(BadCode, story, SCOPE, PLACED, None)
        # Marks, shows, puts and ends give no place.
        for spot in ((0, 0), (0, 10), (0, 11), (0, 12), (0, -1), (1, 0), (7, 3), (7, 0), (30, 0), [0, 1], (0, 1, 1), (0, True), (False, 1), (0,)):
            self.assertRaises(BadSpot, story, SCOPE, NAMED, spot)
        self.assertEqual(story(SCOPE, NAMED, (0, 1)), ("is", -7))


if __name__ == "__main__":
    unittest.main()
