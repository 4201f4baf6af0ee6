"""Finding the faults of a unit."""

from stopanywhere.faceforms import names_of_face
from stopanywhere.parts import (
    declared_names, ends_block, expressions_of, kinds_within, names_let, parts_of,
)
from stopanywhere.sights import Sight, passages


class FaultFinder:
    """What goes through a unit and gathers its faults."""

    def __init__(self, unit, faces):
        self._unit = unit
        self._faces = faces
        self._sight = Sight(unit, faces)
        self._found = []
        self._function = None
        self._point = None

    def all_faults(self):
        self._look_at_uses()
        self._look_at_faces()
        self._look_at_names()
        for function in self._unit[4]:
            self._look_at_function(function)
        return self._found

    def _tell(self, word, name):
        self._found.append((self._function, self._point, word, name))

    def _look_at_uses(self):
        _, unit_name, used, _, _ = self._unit
        for at, name in enumerate(used):
            if name == unit_name or name in used[:at]:
                self._tell("uses", name)

    def _look_at_faces(self):
        for name in sorted(self._faces):
            _, _, kinds, functions = self._faces[name]
            for declaration in kinds:
                self._look_at_kinds(kinds_within(declaration))
            for _, parameters, result in functions:
                self._look_at_kinds(list(parameters) + [result])

    def _look_at_kinds(self, kinds):
        for kind in kinds:
            if not self._sight.is_known(kind):
                self._tell("kind", kind)

    def _look_at_names(self):
        told = {name: True for face in self._faces for name in names_of_face(self._faces[face])}
        for declaration in self._unit[3]:
            for name in declared_names(declaration):
                self._look_at_told(name, told)
            self._look_at_kinds(kinds_within(declaration))
        for function in self._unit[4]:
            self._look_at_told(function[1], told)

    def _look_at_told(self, name, told):
        if name in told:
            self._tell("again", name)
        told[name] = True

    def _look_at_function(self, function):
        _, called, parameters, block = function
        self._function = called
        told = {}
        for name in parameters:
            self._look_at_told(name, told)
        for point, (statement, names, is_behind_end) in enumerate(passages(function)):
            self._point = point
            if is_behind_end:
                self._tell("never", "")
            self._look_at_expressions(statement, names)
            self._look_at_statement(statement, names, told)
        self._point = None
        if not ends_block(block):
            self._tell("open", "")

    def _look_at_expressions(self, statement, names):
        for path, expression in expressions_of(statement):
            if statement[0] == "try" and path == (4,):
                self._look_at_expression(expression, (*names, statement[3]))
            else:
                self._look_at_expression(expression, names)

    def _look_at_expression(self, expression, names):
        for _, part in parts_of(expression):
            self._look_at_expression(part, names)
        word = expression[0]
        if word == "name" and expression[1] not in names:
            self._tell("unknown", expression[1])
        elif word == "call":
            self._look_at_call(expression[1], len(expression[2]))
        elif word == "make":
            self._look_at_make(expression[1], len(expression[2]))
        elif word in ("new", "at", "long"):
            self._look_at_row(expression[1])

    def _look_at_call(self, function, count):
        if function not in self._sight.counts:
            self._tell("function", function)
        elif self._sight.counts[function] != count:
            self._tell("count", function)

    def _look_at_make(self, variant, count):
        if variant not in self._sight.cases:
            self._tell("variant", variant)
        elif len(self._sight.cases[variant][1]) != count:
            self._tell("count", variant)

    def _look_at_row(self, kind):
        if not self._sight.is_row(kind):
            self._tell("row", kind)

    def _look_at_statement(self, statement, names, told):
        word = statement[0]
        if word == "set" and statement[1] not in names:
            self._tell("unknown", statement[1])
        if word == "put":
            self._look_at_row(statement[1])
        if word == "match":
            self._look_at_match(statement[2], told)
        else:
            for name in names_let(statement):
                self._look_at_told(name, told)

    def _look_at_match(self, branches, told):
        kinds = [self._sight.cases[variant][0] for variant, _, _ in branches if variant in self._sight.cases]
        variants = [variant for variant, _, _ in branches]
        for at, (variant, names, _) in enumerate(branches):
            if variant not in self._sight.cases:
                self._tell("variant", variant)
            else:
                kind, fields = self._sight.cases[variant]
                if kind != kinds[0]:
                    self._tell("other", variant)
                if variant in variants[:at]:
                    self._tell("twice", variant)
                if len(fields) != len(names):
                    self._tell("count", variant)
            for name in names:
                self._look_at_told(name, told)
        if kinds:
            for variant in self._sight.variants_of(kinds[0]):
                if variant not in variants:
                    self._tell("missing", variant)
