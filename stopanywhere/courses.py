"""Functions as rows of small steps, over a stack of worths, for the plain run."""

from stopanywhere.parts import parts_of
from stopanywhere.sights import passages


class Course:
    """A function for the plain run.

    steps are tuples, a word first; taken tells the kinds of the parameters, sights by points the ascending variables
    in sight.
    """

    def __init__(self, function, taken):
        _, self.called, self.parameters, block = function
        self.taken = taken
        self.sights = [tuple(sorted(names)) for _, names, _ in passages(function)]
        self.steps = []
        self._points = 0
        self._add_block(block)

    def _add(self, *step):
        self.steps.append(step)

    def _leave_room(self):
        """The index of a step that is put in later, when it is known where it leads."""
        self.steps.append(())
        return len(self.steps) - 1

    def _put_in(self, at, *step):
        """Puts a step in its room, that leads behind all steps so far."""
        self.steps[at] = (*step, len(self.steps))

    def _add_block(self, block):
        for statement in block:
            begin = len(self.steps)
            self._add("point", self._points)
            self._points += 1
            self._add_statement(statement, begin)

    def _add_statement(self, statement, begin):
        word = statement[0]
        if word in ("let", "set"):
            self._add_expression(statement[2])
            self._add("store", statement[1])
        elif word == "put":
            for expression in statement[2:]:
                self._add_expression(expression)
            self._add("put")
        elif word == "if":
            self._add_if(statement)
        elif word == "while":
            self._add_while(statement, begin)
        elif word == "match":
            self._add_match(statement)
        elif word == "try":
            self._add_try(statement)
        else:
            self._add_expression(statement[1])
            self._add(word)

    def _add_if(self, statement):
        self._add_expression(statement[1])
        test = self._leave_room()
        self._add_block(statement[2])
        behind = self._leave_room()
        self._put_in(test, "unless")
        self._add_block(statement[3])
        self._put_in(behind, "jump")

    def _add_while(self, statement, begin):
        self._add_expression(statement[1])
        test = self._leave_room()
        self._add_block(statement[2])
        self._add("jump", begin)
        self._put_in(test, "unless")

    def _add_match(self, statement):
        self._add_expression(statement[1])
        choice = self._leave_room()
        table = {}
        ends = []
        for variant, names, block in statement[2]:
            table[variant] = (names, len(self.steps))
            self._add_block(block)
            ends.append(self._leave_room())
        self.steps[choice] = ("match", table)
        for at in ends:
            self._put_in(at, "jump")

    def _add_try(self, statement):
        _, name, call, number, last = statement
        for part in call[2]:
            self._add_expression(part)
        called = self._leave_room()
        self._add("store", name)
        behind = self._leave_room()
        self._put_in(called, "try", call[1], len(call[2]))
        self._add("store", number)
        self._add_expression(last)
        self._add("store", name)
        self._put_in(behind, "jump")

    def _add_expression(self, expression):
        word = expression[0]
        if word in ("number", "truth"):
            self._add("push", expression[1])
        elif word == "name":
            self._add("load", expression[1])
        elif word in ("and", "or"):
            self._add_expression(expression[1])
            decided = self._leave_room()
            self._add_expression(expression[2])
            self._put_in(decided, word)
        else:
            parts = parts_of(expression)
            for _, part in parts:
                self._add_expression(part)
            if word in ("call", "make"):
                self._add(word, expression[1], len(parts))
            elif word == "new":
                self._add(word, expression[1])
            else:
                self._add(word)
