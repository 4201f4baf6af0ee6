"""Points 2 and 140: from texts to the chip, on all roads; stopped, moved, gone back and gone on."""

import random
import unittest

from bundles import drawn_orders
from code_tools import kinds_and_codes, sound_programs, starts_of
from stopanywhere.again import build, stale
from stopanywhere.chips import chip_run
from stopanywhere.errors import KindClash
from stopanywhere.forms import scope_of_codes
from stopanywhere.images import image, image_of, read_image
from stopanywhere.judge import judge
from stopanywhere.kinds import is_clash
from stopanywhere.layouts import least_layout
from stopanywhere.objects import linked
from stopanywhere.passes import lean, rewritten
from stopanywhere.placing import placed_code
from stopanywhere.plain import Program, fits, told_run
from stopanywhere.runner import Codes
from stopanywhere.sessions import Session, led
from stopanywhere.steps import steps_of
from stopanywhere.texts import read_unit, unit_text
from stopanywhere.walks import walk


class Roads(unittest.TestCase):
    def test_all_roads(self):
        rng = random.Random(1)
        ends = {"returned": 0, "failed": 0}
        for at, drawn in enumerate(sound_programs(rng, 9)):
            units = [read_unit(unit_text(unit)) for unit in drawn.units]
            rng.shuffle(units)
            program = Program(units)
            registers = 6 + at % 4
            objects, _ = build(units, {}, registers)
            bundle = linked(list(objects.values()), rng.sample(list(objects), len(objects)))
            orders = drawn_orders(rng, bundle)
            images = [image(bundle), image_of(bundle, orders, least_layout(bundle, orders))]
            self.assertEqual([read_image(told)[0] for told in images], [bundle] * 2)
            kinds, named = kinds_and_codes(program)
            scope = scope_of_codes(kinds, list(named.values()))
            better = lean(scope, named)[0]
            placed = {name: placed_code(better[name], registers)[0] for name in better}
            roads = [Codes(kinds, list(codes.values())) for codes in (named, better, placed)] + [Codes(list(bundle[3]), list(bundle[2]))]
            for name, arguments in starts_of(program, rng)[:3]:
                outputs, end, moments = told_run(program, name, arguments, 250)
                for road in roads:
                    ends = self.check_road(led(road, name, arguments, 700), outputs, end, moments, ends)
                for road in roads[:2]:
                    found = walk(road, name, arguments, 700)
                    if ("cut",) not in (end, found[1]):
                        self.assertEqual(found[:2], (outputs, end))
                        self.assertEqual(len(found[2]), len(moments))
                    for moment, other in zip(found[2], moments):
                        self.assertTrue(fits(moment, other))
                for told in images:
                    found = chip_run(told, name, arguments, 1500)
                    if ("cut",) not in (end, found[1]):
                        self.assertEqual(found[:2], (outputs, end))
        self.assertGreater(min(ends.values()), 8)

    def check_road(self, found, outputs, end, moments, ends):
        shown, other_end, told = found
        short = min(len(shown), len(outputs))
        self.assertEqual(shown[:short], outputs[:short])
        if ("cut",) not in (end, other_end):
            self.assertEqual((shown, other_end), (outputs, end))
            ends = {**ends, end[0]: ends[end[0]] + 1}
        for event, moment in told.items():
            if 0 < event <= len(moments):
                self.assertTrue(fits(moment, moments[event - 1]))
        return ends

    def test_any_row_of_rewritings(self):
        rng = random.Random(2)
        for program in sound_programs(rng, 3, 2):
            kinds, codes = kinds_and_codes(program)
            scope = scope_of_codes(kinds, list(codes.values()))
            rows = []
            made = codes
            for _ in range(8):
                name = rng.choice(list(made))
                words = ["fold", "same", "alike", "twins", "spare", "dead", "hoist", "merge", "inline"]
                steps = [step for word in rng.sample(words, 4) for step in steps_of(scope, made, name, word)[:5]]
                if steps:
                    rows.append((name, rng.choice(steps)))
                    before = made
                    made, changes = rewritten(scope, made, rows[-1:])
                    self.assertIsNone(judge(scope, before, *changes[0]))
            level = {name: placed_code(made[name], 6)[0] for name in made}
            for road in (made, level):
                runner = Codes(kinds, list(road.values()))
                for name, arguments in starts_of(program, rng)[:3]:
                    outputs, end, moments = told_run(program, name, arguments, 200)
                    self.check_road(led(runner, name, arguments, 500), outputs, end, moments, {"returned": 0, "failed": 0})

    def test_stopped_moved_and_gone_back(self):
        rng = random.Random(3)
        stops = 0
        for program in sound_programs(rng, 5):
            objects, _ = build(list(program.units), {}, rng.randint(6, 9))
            bundle = read_image(image(linked(list(objects.values()), list(objects))))[0]
            runner = Codes(list(bundle[3]), list(bundle[2]))
            for name, arguments in starts_of(program, rng)[:3]:
                outputs, end, moments = told_run(program, name, arguments, 300)
                session = Session(runner, name, arguments)
                for _ in range(30):
                    deed = rng.choice(["forth", "back", "move"])
                    if deed == "move":
                        session.move(rng.sample(range(1, 99), len(session.reached())))
                    elif deed == "back":
                        session.back(rng.randint(0, 9))
                    else:
                        session.forth(rng.randint(0, 15))
                    if session.end() == ("cut",) and 0 < session.events() <= len(moments):
                        self.assertTrue(fits(session.moment(), moments[session.events() - 1]))
                        stops += 1
                session.forth(3000)
                if ("cut",) not in (end, session.end()):
                    self.assertEqual((session.outputs(), session.end()), (outputs, end))
        self.assertGreater(stops, 150)

    def test_kinds_or_a_clash(self):
        # What is let never meets a worth of another kind; what is not has a clash.
        units = [read_unit("unit u function f(a) { let b = a show b if a { } return 1 }")]
        with self.assertRaises(KindClash) as caught:
            Program(units)
        self.assertTrue(is_clash(units[0], {}, caught.exception.clash))

    def test_compiled_again(self):
        rng = random.Random(4)
        for program in sound_programs(rng, 3):
            units = list(program.units)
            objects, _ = build(units, {}, 6)
            # Each unit gets one more function that nobody uses: its face is another one then.
            at = rng.randrange(len(units))
            extra = read_unit("unit u function zzextra(n) { return n }")[4]
            units[at] = (*units[at][:4], units[at][4] + extra)
            wanted = tuple(name for name in program.order if name == units[at][1] or units[at][1] in {u[1]: u for u in units}[name][2])
            self.assertEqual(stale(units, objects, 6), wanted)
            found, compiled = build(units, objects, 6)
            self.assertEqual(compiled, wanted)
            anew, _ = build(units, {}, 6)
            self.assertEqual(found, anew)
            self.assertEqual(linked(list(found.values()), list(found)), linked(list(anew.values()), list(anew)))


if __name__ == "__main__":
    unittest.main()
