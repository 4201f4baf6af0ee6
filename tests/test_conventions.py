"""Point 3, for all functions at once: names of parameters, what is passed, what is returned."""

import copy
import importlib
import inspect
import unittest

from odd_values import as_bool, as_list, changed, odd_values
from stopanywhere.chips import chip_begin, chip_step
from stopanywhere.collecting import reached_of
from stopanywhere.colours import colours, is_colouring
from stopanywhere.desk import Desk
from stopanywhere.faces import all_faces
from stopanywhere.forms import Scope, is_named, is_placed, scope_of_codes
from stopanywhere.images import image_of, is_image
from stopanywhere.kinds import as_told, clash, is_clash, kinds_of
from stopanywhere.layouts import is_layout, is_reasons, least_layout, leaps, plain_orders
from stopanywhere.lowering import named_code, named_codes, scope_of
from stopanywhere.bits import is_instruction
from stopanywhere.names import does_end
from stopanywhere.objects import is_bundle, is_object, linked, object_of
from stopanywhere.papers import is_paper
from stopanywhere.placing import is_placing, placing
from stopanywhere.plain import Plain, Program, told_run
from stopanywhere.runner import Codes
from stopanywhere.sessions import Session
from stopanywhere.steps import is_step, stepped
from stopanywhere.texts import read_unit, unit_text
from stopanywhere.ways import tidy
from test_forms import PLACED, SCOPE

# Of each function its parameters, of each class those of its objects' making, of each method its own.
PARAMETERS = {
    "words": {"is_name": "thing", "sort_of": "word"},
    "trees": {
        "is_kind": "thing", "is_expression": "thing", "is_block": "thing", "is_function": "thing",
        "is_declaration": "thing", "is_unit": "thing", "statements": "function", "calls_in": "tree", "depth": "tree",
    },
    "texts": {
        "words_of": "text", "read_unit": "text", "read_expression": "text", "read_block": "text", "can_follow": "text",
        "unit_text": "unit", "expression_text": "expression", "block_text": "block", "places_of": "text",
        "point_at": "text line column",
    },
    "alike": {"is_like": "one other", "with_names": "unit names"},
    "names": {
        "in_sight": "function point", "does_end": "block", "faults": "unit faces", "order_of": "units",
        "users_of": "units name",
    },
    "kinds": {
        "ties": "unit faces", "wants": "unit faces", "clash": "unit faces", "is_clash": "unit faces thing",
        "kinds_of": "unit faces", "kind_at": "unit faces function point path", "as_told": "unit faces kinds",
        "is_sound": "unit faces",
    },
    "faces": {"face_of": "unit faces", "is_face": "thing", "all_faces": "units"},
    "plain": {
        "Program": "units", "Plain": "program function arguments", "Plain.step": "", "Plain.go": "", "Plain.events": "",
        "Plain.moment": "", "Plain.outputs": "", "Plain.end": "", "told_run": "program function arguments most",
        "narrowed": "moment chosen", "fits": "moment other",
    },
    "forms": {
        "Scope": "kinds functions", "Scope.choice": "variant", "Scope.variants": "choice", "Scope.fields": "variant",
        "Scope.item": "kind", "Scope.takes": "function", "Scope.gives": "function", "scope_of_codes": "kinds codes",
        "is_named": "thing scope", "is_placed": "thing scope registers",
    },
    "ways": {
        "kinds_at": "code scope spot", "way_without": "code scope spot place", "tidy": "code scope",
        "are_alike": "code other scope", "stand_ins": "code scope", "without_stand_ins": "code scope",
    },
    "lowering": {"scope_of": "unit faces", "named_code": "unit faces name", "named_codes": "unit faces"},
    "heaps": {
        "made": "heap shape words", "pictures": "scope heap words", "reached": "scope heap words", "moved": "scope heap words addresses",
    },
    "runner": {
        "Codes": "kinds codes", "Codes.begin": "function arguments", "Codes.step": "state", "Codes.run": "state most",
        "Codes.is_state": "thing",
    },
    "walks": {"walk": "codes function arguments most"},
    "terms": {"told_number": "scope code place", "told_same": "scope code place other"},
    "roads": {
        "ahead_of": "scope code block", "way_past": "scope code block other", "readers": "scope code place",
        "ring_of": "scope codes name",
    },
    "stories": {"story": "scope code spot"},
    "steps": {
        "stepped": "scope codes name step", "is_step": "scope codes name thing", "steps_of": "scope codes name word",
        "refusal": "scope codes name step",
    },
    "passes": {
        "rewritten": "scope codes rows", "settled": "scope codes name words", "lost_in": "scope code", "lean": "scope codes",
    },
    "wanted": {"wanted": "code", "way_to": "code spot place", "alive": "code", "carried": "code"},
    "colours": {"most": "code slots", "colours": "code slots", "is_colouring": "code slots colouring"},
    "spills": {
        "least": "spans room", "worth": "spans room prices", "slots": "code room", "spans_of": "code", "prices_of": "code room",
    },
    "moves": {"moves": "pairs helpers", "openings": "pairs"},
    "placing": {
        "placing": "code registers", "is_placing": "code registers places", "found": "code registers places",
        "lost_way": "code registers places spot place", "placed": "code registers places", "placed_code": "code registers",
    },
    "papers": {"is_paper": "scope codes code thing"},
    "judge": {"judge": "scope codes code paper", "judge_all": "scope codes changes", "parted": "scope codes code paper"},
    "tables": {"roots_at": "code scope spot waiting", "told_at": "code scope spot waiting", "table": "code scope"},
    "collecting": {
        "roots_of": "codes state", "reached_of": "codes state", "collected": "codes state addresses",
        "alike_states": "codes state other",
    },
    "sessions": {
        "Session": "codes function arguments", "Session.at": "", "Session.state": "", "Session.events": "", "Session.outputs": "",
        "Session.end": "", "Session.forth": "many", "Session.back": "many", "Session.to_events": "many", "Session.moment": "",
        "Session.told": "", "Session.reached": "", "Session.move": "addresses", "Session.last_other": "depth name",
        "led": "codes function arguments most",
    },
    "objects": {
        "object_of": "unit faces registers", "is_object": "thing", "linked": "objects order", "is_bundle": "thing",
        "calls_of": "bundle", "kept": "bundle functions",
    },
    "again": {"build": "units objects registers", "stale": "units objects registers"},
    "bits": {
        "count_bits": "number", "number_bits": "number", "read_count": "bits at", "read_number": "bits at",
        "is_instruction": "registers thing", "bits_of": "registers instructions", "read_bits": "registers bits",
        "instruction_at": "registers bits address",
    },
    "layouts": {
        "plain_orders": "bundle", "leaps": "bundle orders", "distance": "bundle orders long leap", "size": "bundle orders long",
        "is_layout": "bundle orders thing", "meet": "bundle orders one other", "least_layout": "bundle orders",
        "reasons": "bundle orders", "is_reasons": "bundle orders thing",
    },
    "images": {
        "image_of": "bundle orders long", "image": "bundle", "is_image": "thing", "read_image": "image", "spot_at": "image address",
        "spot_behind": "image address", "address_of": "image spot",
    },
    "chips": {
        "chip_begin": "image function arguments", "chip_step": "image state", "chip_run": "image function arguments most",
        "runner_state": "image state",
    },
    "desk": {"Desk": "texts function arguments count", "Desk.say": "line"},
}
A = read_unit(
    "unit a choice c = v | w(number, c) row r of c "
    "function f(p, q) { let x = new r(p + 2, make v) put r(x, 0) = make w(p, make v) while q and 0 < p { show p set p = p - 1 } "
    "match at r(x, 0) { v { return 0 } w(n, m) { try y = g(x) else z: z return y + n } } } "
    "function g(o) { return long r(o) over 0 }"
)
B = read_unit("unit b uses a function h(p) { return f(p, true) } function e() { return make w(1, make v) }")
CLASHING = read_unit("unit a function f(a) { show a if a { } return 1 }")
FACES = {"a": all_faces([A])["a"]}
CODE = named_code(A, {}, "f")
IN_A = scope_of(A, {})
PROGRAM = Program([A, B])
MOMENT = told_run(PROGRAM, "h", [1], 20)[2][-1]
NAMES = [[name for name, _ in frame[2]] for frame in MOMENT[0]]
LAST = max(CODE[2])
TEXT = "unit a\nfunction g() { show 1 } function f() { while true { show 2 } }"


PLACE_ORDERED = ("ways.stand_ins", "wanted.carried", "colours.colours", "spills.slots", "placing.placing")


def samples():
    """Calls with values that are right: the function's name, then its arguments."""
    return [
        ("words.is_name", ["a"]), ("words.sort_of", ["a"]), ("trees.is_unit", [A]), ("trees.statements", [A[4][0]]),
        ("trees.calls_in", [A[4][0]]), ("trees.depth", [A[4][0][3]]), ("texts.words_of", [TEXT]),
        ("texts.read_unit", [TEXT]), ("texts.read_expression", ["a + 1"]), ("texts.read_block", ["show 1"]),
        ("texts.can_follow", ["unit a"]), ("texts.unit_text", [A]), ("texts.expression_text", [("number", 1)]),
        ("texts.block_text", [A[4][0][3]]), ("texts.places_of", [TEXT]), ("texts.point_at", [TEXT, 2, 16]),
        ("alike.is_like", [A, B]), ("alike.with_names", [A, {"x": "xx", "a": "u"}]), ("names.in_sight", [A[4][0], 3]),
        ("names.does_end", [A[4][0][3]]), ("names.faults", [B, FACES]), ("names.faults", [A, {}]),
        ("names.faults", [read_unit("unit a function f() { }"), {}]), ("names.order_of", [[B, A]]),
        ("names.users_of", [[B, A], "a"]), ("kinds.ties", [B, FACES]), ("kinds.ties", [A, {}]), ("kinds.wants", [B, FACES]),
        ("kinds.clash", [B, FACES]), ("kinds.clash", [CLASHING, {}]), ("kinds.is_clash", [CLASHING, {}, clash(CLASHING, {})]),
        ("kinds.kinds_of", [B, FACES]), ("kinds.kinds_of", [A, {}]), ("kinds.kind_at", [A, {}, "f", 0, (2, 2)]),
        ("kinds.as_told", [A, {}, kinds_of(A, {})]), ("kinds.is_sound", [B, FACES]), ("faces.face_of", [B, FACES]),
        ("faces.is_face", [FACES["a"]]), ("faces.all_faces", [[B, A]]), ("plain.told_run", [PROGRAM, "f", [2, True], 50]),
        ("plain.told_run", [PROGRAM, "e", [], 50]), ("plain.narrowed", [MOMENT, NAMES]), ("plain.fits", [MOMENT, MOMENT]),
        ("forms.scope_of_codes", [list(A[3]), [CODE]]), ("forms.is_named", [CODE, IN_A]),
        ("forms.is_placed", [PLACED, SCOPE, 9]), ("ways.kinds_at", [CODE, IN_A, (LAST, 1)]),
        ("ways.kinds_at", [PLACED, SCOPE, (8, 1)]), ("ways.way_without", [CODE, IN_A, (0, 0), "v3"]),
        ("ways.tidy", [CODE, IN_A]), ("ways.are_alike", [CODE, tidy(CODE, IN_A), IN_A]), ("ways.stand_ins", [CODE, IN_A]),
        ("ways.stand_ins", [STANDING, IN_F]), ("ways.without_stand_ins", [STANDING, IN_F]), ("ways.tidy", [STANDING, IN_F]),
        ("lowering.scope_of", [B, FACES]), ("lowering.named_code", [B, FACES, "h"]), ("lowering.named_codes", [B, FACES]),
        ("lowering.named_codes", [A, {}]),
    ] + samples_of_codes()


def samples_of_codes():
    """The same of functions over heaps and codes."""
    boxes = {9: ("r", (3, 0)), 3: ("w", (1, 5)), 5: ("v", ())}
    words = [("r", 9), ("number", 4), ("c", 0)]
    plain = {"h": NUMBERS, "f": JOINED}
    spans = [(0, 4, 2), (1, 2, 5), (2, 6, 1)]
    pairs = [("r1", "r0"), ("r0", "r1"), ("s1", "s0")]
    return [
        ("heaps.made", [boxes, "v", ()]), ("heaps.pictures", [IN_A, boxes, words]), ("heaps.reached", [IN_A, boxes, words]),
        ("heaps.moved", [IN_A, boxes, words, [4, 1, 900]]), ("walks.walk", [CODES, "f", [2, True], 60]),
        ("terms.told_number", [IN_F, JOINED, "v2"]), ("terms.told_same", [IN_F, JOINED, "v2", "v3"]),
        ("roads.ahead_of", [IN_F, JOINED, 9]), ("roads.way_past", [IN_F, JOINED, 9, 4]), ("roads.readers", [IN_F, JOINED, "v0"]),
        ("roads.ring_of", [IN_F, plain, "h"]), ("roads.ring_of", [IN_F, plain, "f"]), ("stories.story", [IN_F, JOINED, (0, 2)]),
        ("steps.stepped", [IN_F, plain, "f", ("dead", 0, 2)]), ("steps.stepped", [IN_F, plain, "f", ("inline", 0, 4)]),
        ("steps.stepped", [IN_F, plain, "f", ("alike", 9, 0)]), ("steps.is_step", [IN_F, plain, "f", ("merge", 9)]),
        ("steps.steps_of", [IN_F, plain, "f", "same"]), ("steps.refusal", [IN_F, plain, "f", ("merge", 9)]),
        ("passes.rewritten", [IN_F, plain, [("f", ("dead", 0, 2)), ("h", ("fold", 0, 3))]]),
        ("passes.settled", [IN_F, plain, "f", ["same", "dead"]]), ("passes.lost_in", [IN_F, JOINED]), ("passes.lean", [IN_F, plain]),
        ("wanted.wanted", [JOINED]), ("wanted.wanted", [PLACED]), ("wanted.way_to", [JOINED, (0, 0), "v0"]), ("wanted.alive", [JOINED]),
        ("wanted.carried", [JOINED]), ("colours.most", [JOINED, ["v3"]]), ("colours.colours", [JOINED, ["v3"]]),
        ("colours.is_colouring", [NUMBERS, ["v2"], {"v3": 0, "v0": 0, "v1": 1}]), ("spills.least", [spans, 1]),
        ("spills.worth", [spans, 1, [0, 0, 2]]), ("spills.slots", [JOINED, 1]), ("spills.slots", [NUMBERS, 1]),
        ("spills.spans_of", [NUMBERS]), ("spills.prices_of", [NUMBERS, 1]), ("moves.moves", [pairs, ("r6", "r7")]),
        ("moves.openings", [pairs]),
    ] + samples_of_levels()


def samples_of_levels():
    """The same of placings, papers, tables, states and sessions."""
    plain = {"h": NUMBERS, "f": JOINED}
    lies = placing(JOINED, 6)
    dead, dead_paper = stepped(IN_F, plain, "f", ("dead", 0, 2))
    wrong = {**dead_paper, 9: ((("f", 9, 0, {"v8": ("is", 3), "v4": ("of", "v4", 1, 0)}),), (), False)}
    state = CODES.run(CODES.begin("f", [2, True]), 4)
    addresses = [at + 20 for at in range(len(reached_of(CODES, state)))]
    return [
        ("placing.placing", [JOINED, 6]), ("placing.is_placing", [JOINED, 6, lies]), ("placing.found", [JOINED, 6, lies]),
        ("placing.lost_way", [JOINED, 6, lies, (9, 0), "v1"]), ("placing.placed", [JOINED, 6, lies]), ("placing.placed_code", [JOINED, 7]),
        ("papers.is_paper", [IN_F, plain, dead, dead_paper]), ("judge.judge", [IN_F, plain, dead, dead_paper]),
        ("judge.judge", [IN_F, plain, dead, wrong]), ("judge.judge_all", [IN_F, plain, [(dead, dead_paper)]]),
        ("judge.judge_all", [IN_F, plain, [(dead, wrong)]]), ("judge.parted", [IN_F, plain, dead, wrong]),
        ("tables.roots_at", [CODE, IN_A, (0, 4), False]), ("tables.told_at", [CODE, IN_A, (0, 4), False]), ("tables.table", [CODE, IN_A]),
        ("tables.table", [JOINED, IN_F]), ("collecting.roots_of", [CODES, state]), ("collecting.reached_of", [CODES, state]),
        ("collecting.collected", [CODES, state, addresses]), ("collecting.alike_states", [CODES, state, state]),
        ("sessions.led", [CODES, "f", [2, True], 40]),
    ] + samples_of_making()


def samples_of_making():
    """The same of objects, bundles, bits, images and the chip."""
    objects = {"a": object_of(A, {}, 6), "b": object_of(B, FACES, 6)}
    bundle = linked(list(objects.values()), ["b", "a"])
    orders = plain_orders(bundle)
    least = least_layout(bundle, orders)
    told = image_of(bundle, orders, least)
    state = chip_begin(told, "f", [2, True])
    for _ in range(9):
        state = chip_step(told, state)
    some = [("const", "r0", 5), ("make", "v", "r1", ()), ("jump", ("long", -7)), ("return",)]
    return [
        ("objects.object_of", [B, FACES, 6]), ("objects.is_object", [objects["b"]]), ("objects.linked", [list(objects.values()), ["a", "b"]]),
        ("objects.is_bundle", [bundle]), ("objects.calls_of", [bundle]), ("objects.kept", [bundle, ["h"]]), ("again.build", [[B, A], {"a": objects["a"]}, 6]),
        ("again.stale", [[B, A], objects, 7]), ("bits.count_bits", [3]), ("bits.number_bits", [-3]), ("bits.read_count", ["00100", 0]),
        ("bits.read_number", ["00100", 0]), ("bits.is_instruction", [6, some[0]]), ("bits.bits_of", [6, some]), ("bits.read_bits", [6, told[3]]),
        ("bits.instruction_at", [6, told[3], 0]), ("layouts.plain_orders", [bundle]), ("layouts.leaps", [bundle, orders]),
        ("layouts.distance", [bundle, orders, least, leaps(bundle, orders)[0]]), ("layouts.size", [bundle, orders, least]),
        ("layouts.is_layout", [bundle, orders, least]), ("layouts.meet", [bundle, orders, least, least]), ("layouts.least_layout", [bundle, orders]),
        ("layouts.reasons", [bundle, orders]), ("layouts.is_reasons", [bundle, orders, least]), ("images.image_of", [bundle, orders, least]),
        ("images.image", [bundle]), ("images.is_image", [told]), ("images.read_image", [told]), ("images.spot_at", [told, 0]),
        ("images.spot_behind", [told, len(told[3])]), ("images.address_of", [told, ("f", 0, 1)]), ("chips.chip_begin", [told, "f", [2, True]]),
        ("chips.chip_step", [told, state]), ("chips.chip_run", [told, "f", [2, True], 500]), ("chips.runner_state", [told, state]),
    ]


MARK = (None, "mark", (("f", 0, ()),))
STANDING = ("f", "number", {
    9: ((("v11", "number"), ("v12", "number")), (MARK,), ("return", "v11")),
    0: ((("v0", "number"),), (MARK,), ("jump", 9, ("v0", "v0"))),
})
IN_F = Scope([], {"f": (("number",), "number"), "h": (("number",), "number")})
CODES = Codes(list(A[3]), list(named_codes(A, {}).values()))
# h has one block, f a call of it, places that are the same, and a join.
NUMBERS = ("h", "number", {0: ((("v0", "number"),), (
    (None, "mark", (("h", 0, (("n", "number", ("of", "v0", 1, 0)),)),)), ("v1", "const", 2), ("v2", "plus", "v0", "v1"), ("v3", "less", "v1", "v1"),
), ("return", "v2"))})
JOINED = ("f", "number", {
    9: ((("v8", "number"),), (MARK, (None, "show", "v8")), ("return", "v4")), 5: ((), (MARK,), ("jump", 9, ("v0",))),
    0: ((("v0", "number"),), (MARK, ("v1", "const", 3), ("v2", "plus", "v1", "v0"), ("v3", "plus", "v0", "v1"), ("v4", "call", "h", ("v3",)),
                             (None, "still", (("f", 0, (("x", "number", ("of", "v2", -1, 0)),)),))), ("branch", "v3", 5, 4)),
    4: ((), (MARK,), ("jump", 9, ("v0",))),
})


def called(path):
    module, _, name = path.partition(".")
    return getattr(importlib.import_module("stopanywhere." + module), name)


def parts(thing):
    """A value and all that stands in it."""
    yield thing
    if isinstance(thing, (list, tuple)):
        for part in thing:
            yield from parts(part)
    elif isinstance(thing, dict):
        for key in thing:
            yield from parts(thing[key])


def kept(thing):
    """The lists and dicts in a value, by their identities."""
    return {id(part): part for part in parts(thing) if isinstance(part, (list, dict))}


def other_lists(thing):
    """A value with each list as a tuple."""
    if isinstance(thing, (list, tuple)):
        return tuple(other_lists(part) for part in thing)
    if isinstance(thing, dict):
        return {key: other_lists(thing[key]) for key in thing}
    return thing


def turned(thing):
    """A value with the keys of each dict the other way round."""
    if isinstance(thing, (list, tuple)):
        return thing.__class__(turned(part) for part in thing)
    if isinstance(thing, dict):
        return {key: turned(thing[key]) for key in reversed(list(thing))}
    return thing


class Parameters(unittest.TestCase):
    def test_names(self):
        for module, told in PARAMETERS.items():
            for name, words in told.items():
                found = importlib.import_module("stopanywhere." + module)
                for part in name.split("."):
                    found = getattr(found, part)
                listed = list(inspect.signature(found).parameters.values())
                if "." in name:
                    listed = listed[1:]
                self.assertEqual([parameter.name for parameter in listed], words.split(), (module, name))
                for parameter in listed:
                    self.assertEqual(parameter.kind, parameter.POSITIONAL_OR_KEYWORD)
                    self.assertIs(parameter.default, parameter.empty)

    def test_by_position_and_by_name(self):
        for path, arguments in samples():
            module, _, name = path.partition(".")
            words = PARAMETERS[module][name].split()
            self.assertTrue(called(path)(*arguments) == called(path)(**dict(zip(words, arguments))), path)

    def test_methods_stand_in_their_classes(self):
        for module, told in PARAMETERS.items():
            for name in told:
                if "." in name:
                    owner, _, method = name.partition(".")
                    self.assertIn(method, vars(getattr(importlib.import_module("stopanywhere." + module), owner)))
        self.assertIn("__eq__", vars(Program))
        self.assertIn("__eq__", vars(Scope))
        self.assertIn("__eq__", vars(Codes))


class WhatIsPassed(unittest.TestCase):
    def test_nothing_is_changed(self):
        for path, arguments in samples():
            plain = [None if isinstance(argument, (Program, Scope, Codes)) else argument for argument in arguments]
            before = copy.deepcopy(plain)
            orders = [list(part) for part in parts(plain) if isinstance(part, dict)]
            called(path)(*arguments)
            self.assertEqual(plain, before, path)
            self.assertEqual([list(part) for part in parts(plain) if isinstance(part, dict)], orders, path)

    def test_tuples_for_lists(self):
        for path, arguments in samples():
            found = [other_lists(argument) for argument in arguments]
            self.assertTrue(called(path)(*found) == called(path)(*arguments), path)

    def test_the_order_of_keys_has_no_meaning(self):
        for path, arguments in samples():
            one = called(path)(*arguments)
            other = called(path)(*[turned(argument) for argument in arguments])
            self.assertTrue(other == one, path)
            self.assertEqual(repr(other) if kept(other) else "", repr(one) if kept(one) else "", path)


class WhatIsReturned(unittest.TestCase):
    def test_equal_results(self):
        for path, arguments in samples():
            self.assertTrue(called(path)(*arguments) == called(path)(*arguments), path)

    def test_lists_and_dicts_are_new_at_every_depth(self):
        for path, arguments in samples():
            one, other = called(path)(*arguments), called(path)(*arguments)
            for found in (kept(one), kept(other)):
                self.assertEqual(set(found) & set(kept(arguments)), set(), path)
            self.assertEqual(set(kept(one)) & set(kept(other)), set(), path)

    def test_keys_are_ascending(self):
        for path, arguments in samples():
            for part in parts(called(path)(*arguments)):
                # These stand in place order.
                is_placed_dict = path in PLACE_ORDERED
                if isinstance(part, dict) and not is_placed_dict:
                    self.assertEqual(list(part), sorted(part), path)

    def test_kinds_of_results(self):
        for kind, paths in (
            (list, "trees.statements trees.calls_in texts.words_of names.faults kinds.ties kinds.wants ways.way_without "
                   "heaps.reached steps.steps_of passes.settled wanted.way_to spills.spans_of spills.prices_of moves.moves "
                   "moves.openings placing.lost_way tables.roots_at collecting.roots_of collecting.reached_of bits.read_bits layouts.leaps"),
            (str, "bits.count_bits bits.number_bits bits.bits_of"),
            (dict, "texts.places_of kinds.kinds_of faces.all_faces ways.kinds_at ways.stand_ins lowering.named_codes "
                   "wanted.wanted wanted.alive wanted.carried colours.colours spills.slots placing.placing placing.found judge.parted "
                   "tables.table objects.calls_of layouts.plain_orders"),
            (tuple, "texts.can_follow names.in_sight names.order_of names.users_of plain.told_run plain.narrowed ways.tidy "
                    "texts.point_at texts.read_unit texts.read_block faces.face_of lowering.named_code heaps.made heaps.pictures "
                    "heaps.moved walks.walk roads.ahead_of roads.way_past roads.readers stories.story steps.stepped "
                    "passes.rewritten passes.lean colours.most spills.least placing.placed placing.placed_code tables.told_at "
                    "collecting.collected sessions.led objects.object_of objects.linked objects.kept again.build again.stale bits.read_count "
                    "bits.read_number bits.instruction_at layouts.meet layouts.least_layout layouts.reasons images.image_of images.image "
                    "images.read_image images.spot_at images.spot_behind chips.chip_begin chips.chip_step chips.chip_run chips.runner_state"),
            (int, "passes.lost_in spills.worth layouts.distance layouts.size images.address_of"),
            (bool, "words.is_name trees.is_unit alike.is_like names.does_end kinds.is_clash kinds.as_told kinds.is_sound "
                   "faces.is_face plain.fits forms.is_named forms.is_placed ways.are_alike terms.told_same steps.is_step "
                   "colours.is_colouring placing.is_placing papers.is_paper collecting.alike_states objects.is_object objects.is_bundle "
                   "bits.is_instruction layouts.is_layout layouts.is_reasons images.is_image"),
        ):
            for path, arguments in samples():
                if path in paths.split():
                    self.assertIs(called(path)(*arguments).__class__, kind, path)

    def test_what_judges_any_value_answers_true_or_false(self):
        told_object = object_of(read_unit("unit a function f(n) { show n return n }"), {}, 6)
        bundle = linked([told_object], ["a"])
        orders = plain_orders(bundle)
        judges = [
            called(path) for path in (
                "words.is_name", "trees.is_kind", "trees.is_expression", "trees.is_block", "trees.is_function",
                "trees.is_declaration", "trees.is_unit", "faces.is_face", "objects.is_object", "objects.is_bundle", "images.is_image",
            )
        ] + [
            lambda thing: is_named(thing, SCOPE), lambda thing: is_placed(thing, SCOPE, 9),
            lambda thing: is_clash(CLASHING, {}, thing), lambda thing: as_told(A, {}, thing), CODES.is_state,
            lambda thing: is_step(IN_F, {"f": JOINED, "h": NUMBERS}, "f", thing), lambda thing: is_colouring(JOINED, [], thing),
            lambda thing: is_placing(JOINED, 6, thing), lambda thing: is_paper(IN_F, {"f": JOINED}, JOINED, thing),
            lambda thing: is_instruction(6, thing), lambda thing: is_layout(bundle, orders, thing), lambda thing: is_reasons(bundle, orders, thing),
        ]
        told = [MOMENT, CODE, PLACED, A, A[4][0], A[4][0][3], A[3][0], FACES["a"], clash(CLASHING, {}), kinds_of(A, {})]
        told += [CODES.run(CODES.begin("f", [2, True]), 12), ("same", 0, 3, "v2"), colours(JOINED, [])]
        told += [told_object, bundle, image_of(bundle, orders, least_layout(bundle, orders)), ("make", "v", "r1", ("r0",))]
        told += [placing(JOINED, 6), stepped(IN_F, {"f": JOINED, "h": NUMBERS}, "f", ("dead", 0, 2))[1]]
        for judge in judges:
            for thing in odd_values() + [other for turn in (as_list, as_bool) for one in told for other in changed(one, turn)]:
                self.assertIn(repr(judge(thing)), ("True", "False"))
        for block in ((), A[4][0][3], A[4][0][3][:1]):
            self.assertIs(does_end(block).__class__, bool)

    def test_objects(self):
        plain = Plain(PROGRAM, "f", [2, True])
        found = [plain.step(), plain.moment(), plain.go(), plain.outputs()]
        self.assertEqual([thing.__class__ for thing in found], [str, tuple, bool, list])
        self.assertIsNot(plain.outputs(), plain.outputs())
        for found in (SCOPE, scope_of_codes(list(A[3]), [CODE])):
            self.assertEqual(set(vars(found)) & {"kinds", "functions"}, {"kinds", "functions"})
        self.assertEqual(set(vars(PROGRAM)) & {"units", "order", "faces"}, {"units", "order", "faces"})
        self.assertEqual(set(vars(CODES)) & {"kinds", "codes", "scope"}, {"kinds", "codes", "scope"})
        state = CODES.begin("f", [2, True])
        for found in (state, CODES.step(state), CODES.run(state, 90)):
            self.assertEqual([part.__class__ for part in found[:3]], [tuple, dict, tuple])
            for part in parts(found):
                if isinstance(part, dict):
                    self.assertEqual(list(part), sorted(part))

    def test_desks(self):
        told = Desk([unit_text(A)], "f", [2, True], 6)
        for line in ("where", "next", 7, "shown", None, "worth a", "level image"):
            self.assertIs(told.say(line).__class__, str)

    def test_sessions(self):
        session = Session(CODES, "f", [2, True])
        found = [session.at(), session.state(), session.events(), session.outputs(), session.end(), session.forth(9), session.back(2)]
        self.assertEqual([thing.__class__ for thing in found], [int, tuple, int, list, tuple, int, int])
        found = [session.to_events(2), session.moment(), session.told(), session.reached()]
        self.assertEqual([thing.__class__ for thing in found], [bool, tuple, list, list])
        for ask in (session.state, session.outputs, session.moment, session.told, session.reached):
            one, other = ask(), ask()
            self.assertEqual(one, other)
            self.assertEqual(set(kept(one)) & set(kept(other)), set())
            for part in parts(one):
                if isinstance(part, dict):
                    self.assertEqual(list(part), sorted(part))
        addresses = [at + 30 for at in range(len(session.reached()))]
        before = list(addresses)
        self.assertIsNone(session.move(addresses))
        self.assertEqual(addresses, before)
        self.assertEqual(session.reached(), addresses)


if __name__ == "__main__":
    unittest.main()
