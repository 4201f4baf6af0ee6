"""What a unit asks of its slots: which hold one kind, and which hold a told one. The unit has no faults."""

from stopanywhere.parts import expressions_of, parts_of, statements_of
from stopanywhere.sights import Sight, variables_of

# The kinds of the two parts and of the whole.
KINDS_OF_WORDS = {
    "plus": ("number", "number"), "minus": ("number", "number"), "times": ("number", "number"),
    "over": ("number", "number"), "rest": ("number", "number"),
    "less": ("number", "truth"), "atmost": ("number", "truth"), "same": ("number", "truth"),
    "and": ("truth", "truth"), "or": ("truth", "truth"), "not": ("truth", "truth"),
}


class Asking:
    """What goes through a unit and gathers its ties and its wants, in the order of the text."""

    def __init__(self, unit, faces):
        self.tied = []
        self.wanted_kinds = []
        self._sight = Sight(unit, faces)
        self._function = ""
        self._parameters = ()
        self._point = 0
        for function in unit[4]:
            _, self._function, self._parameters, block = function
            for point, statement in enumerate(statements_of(block)):
                self._point = point
                for path, expression in expressions_of(statement):
                    self._ask_expression(expression, path)
                self._ask_statement(statement)

    def _tie(self, one, other):
        self.tied.append((one, other))

    def _want(self, slot, kind):
        self.wanted_kinds.append((slot, kind))

    def _place(self, path):
        return "place", self._function, self._point, path

    def _variable(self, name):
        return variable_slot(self._function, self._parameters, name)

    def _ask_expression(self, expression, path):
        for way, part in parts_of(expression):
            self._ask_expression(part, path + way)
        word = expression[0]
        here = self._place(path)
        places = [self._place(path + way) for way, _ in parts_of(expression)]
        if word == "name":
            self._tie(here, self._variable(expression[1]))
        elif word == "call":
            self._ask_call(expression[1], places, here)
        elif word in ("number", "truth"):
            self._want(here, word)
        else:
            kinds, kind = self._kinds_asked(expression)
            self._want_all(places, kinds)
            self._want(here, kind)

    def _want_all(self, slots, kinds):
        for slot, kind in zip(slots, kinds):
            self._want(slot, kind)

    def _kinds_asked(self, expression):
        """The kinds of the parts and the kind of the whole."""
        word = expression[0]
        if word in KINDS_OF_WORDS:
            part, kind = KINDS_OF_WORDS[word]
            return (part, part), kind
        if word == "make":
            kind, fields = self._sight.cases[expression[1]]
            return fields, kind
        kind = expression[1]
        if word == "new":
            return ("number", self._sight.part_of(kind)), kind
        if word == "at":
            return (kind, "number"), self._sight.part_of(kind)
        return (kind,), "number"

    def _ask_call(self, called, places, here):
        if called in self._sight.others:
            kinds, kind = self._sight.others[called]
            self._want_all(places, kinds)
            self._want(here, kind)
        else:
            for number, place in enumerate(places):
                self._tie(place, ("parameter", called, number))
            self._tie(here, ("result", called))

    def _ask_statement(self, statement):
        word = statement[0]
        if word in ("let", "set"):
            self._tie(self._variable(statement[1]), self._place((2,)))
        elif word == "put":
            kinds = (statement[1], "number", self._sight.part_of(statement[1]))
            self._want_all([self._place((2,)), self._place((3,)), self._place((4,))], kinds)
        elif word in ("show", "fail"):
            self._want(self._place((1,)), "number")
        elif word in ("if", "while"):
            self._want(self._place((1,)), "truth")
        elif word == "match":
            self._ask_match(statement[2])
        elif word == "try":
            self._tie(self._variable(statement[1]), self._place((2,)))
            self._want(self._variable(statement[3]), "number")
            self._tie(self._place((4,)), self._variable(statement[1]))
        else:
            self._tie(self._place((1,)), ("result", self._function))

    def _ask_match(self, branches):
        kind, _ = self._sight.cases[branches[0][0]]
        self._want(self._place((1,)), kind)
        for variant, names, _ in branches:
            _, fields = self._sight.cases[variant]
            self._want_all([self._variable(name) for name in names], fields)


def variable_slot(function, parameters, name):
    """The slot of a variable of a function."""
    if name in parameters:
        return "parameter", function, parameters.index(name)
    return "variable", function, name


def own_slots(function):
    """The slots of the parameters, of the result and of the other variables of a function."""
    _, called, parameters, _ = function
    found = [("parameter", called, number) for number in range(len(parameters))]
    found.append(("result", called))
    return found + [("variable", called, name) for name in variables_of(function)]
