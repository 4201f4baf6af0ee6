"""Reading texts word by word, with all that could stand where a word cannot."""

from stopanywhere.errors import BadText
from stopanywhere.scanning import place_behind, scanned
from stopanywhere.words import sort_told

LEVELS = {"or": 0, "and": 1, "<": 2, "<=": 2, "==": 2, "+": 3, "-": 3, "*": 4, "over": 4, "rest": 4}
TREES = {
    "or": "or", "and": "and", "<": "less", "<=": "atmost", "==": "same", "+": "plus", "-": "minus", "*": "times",
    "over": "over", "rest": "rest",
}
COMPARED = 2
HIGHEST = 4
MOST_NESTED = 12
BEGINNINGS = ("let", "set", "put", "show", "if", "while", "match", "try", "return", "fail")


class Reader:
    """What leads through the words of a text.

    It gathers every sort of word that was asked for since the last word was taken: as no way of the grammar is tried
    twice, these are the sorts that can stand there.
    """

    def __init__(self, text):
        self._words = scanned(text)
        self._sorts = [sort_told(word) for word, _, _ in self._words]
        self._behind = place_behind(text)
        self._at = 0
        self._wanted = {}
        self._nested = 0
        self._spans = []
        self._functions = {}

    def is_through(self):
        return self._at == len(self._words)

    def all_wanted(self):
        return tuple(sorted(self._wanted))

    def finish(self):
        """Takes the end of the text."""
        self._wanted["end"] = True
        if not self.is_through():
            self._refuse()

    def function_spans(self):
        """The dict from functions to the lists of the spans of their statements, by points.

        A span tells the places of the first and of the last character.
        """
        found = {}
        for name, spans in self._functions.items():
            found[name] = [(self._place_of(first), self._last_place_of(last)) for first, last in spans]
        return found

    def whole_unit(self):
        self._need("unit")
        name = self._need("name")
        used = self._names(5) if self._take("uses") else ()
        return "unit", name, used, self._declarations(), self._unit_functions()

    def statements(self):
        found = []
        statement = self._statement()
        while statement is not None:
            found.append(statement)
            statement = self._statement()
        return tuple(found)

    def expression(self, least):
        """An expression whose signs have at least this level."""
        if least <= COMPARED and self._take("not"):
            left = ("not", self.expression(COMPARED))
            highest = COMPARED - 1
        else:
            left = self._thing()
            highest = HIGHEST
        sign = self._sign(least, highest)
        while sign is not None:
            level = LEVELS[sign]
            left = (TREES[sign], left, self.expression(level + 1))
            # Two comparisons cannot stand one behind the other.
            highest = level - 1 if level == COMPARED else level
            sign = self._sign(least, highest)
        return left

    def _place_of(self, at):
        _, line, column = self._words[at]
        return line, column

    def _last_place_of(self, at):
        word, line, column = self._words[at]
        return line, column + len(word) - 1

    def _take(self, sort):
        """Whether the next word has this sort; then it is taken."""
        if self._at < len(self._sorts) and self._sorts[self._at] == sort:
            self._at += 1
            self._wanted = {}
            return True
        self._wanted[sort] = True
        return False

    def _taken(self):
        word, _, _ = self._words[self._at - 1]
        return word

    def _need(self, sort):
        if not self._take(sort):
            self._refuse()
        return self._taken()

    def _refuse(self):
        line, column = self._behind if self.is_through() else self._place_of(self._at)
        raise BadText(line, column, self.all_wanted())

    def _names(self, most):
        found = [self._need("name")]
        while len(found) < most and self._take(","):
            found.append(self._need("name"))
        return tuple(found)

    def _names_until_close(self):
        found = self._names(3)
        self._need(")")
        return found

    def _declarations(self):
        found = []
        while len(found) < 8:
            if self._take("choice"):
                found.append(self._choice())
            elif self._take("row"):
                found.append(self._row())
            else:
                break
        return tuple(found)

    def _choice(self):
        name = self._need("name")
        self._need("=")
        variants = [self._variant()]
        while len(variants) < 4 and self._take("|"):
            variants.append(self._variant())
        return "choice", name, tuple(variants)

    def _row(self):
        name = self._need("name")
        self._need("of")
        return "row", name, self._kind()

    def _variant(self):
        name = self._need("name")
        if not self._take("("):
            return name, ()
        kinds = [self._kind()]
        while len(kinds) < 3 and self._take(","):
            kinds.append(self._kind())
        self._need(")")
        return name, tuple(kinds)

    def _kind(self):
        if self._take("number") or self._take("truth"):
            return self._taken()
        return self._need("name")

    def _unit_functions(self):
        found = []
        while len(found) < 8 and self._take("function"):
            found.append(self._function())
        return tuple(found)

    def _function(self):
        name = self._need("name")
        self._need("(")
        parameters = () if self._take(")") else self._names_until_close()
        self._spans = []
        block = self._block()
        self._functions[name] = self._spans
        return "function", name, parameters, block

    def _block(self):
        self._need("{")
        found = self.statements()
        self._need("}")
        return found

    def _statement(self):
        """The next statement, None if none begins here."""
        for word in BEGINNINGS:
            if self._take(word):
                # The place is kept free ahead of the statements within, which have greater points.
                first = self._at - 1
                point = len(self._spans)
                self._spans.append((first, first))
                statement = self._statement_behind(word)
                self._spans[point] = (first, self._at - 1)
                return statement
        return None

    def _statement_behind(self, word):
        if word in ("let", "set"):
            name = self._need("name")
            self._need("=")
            return word, name, self.expression(0)
        if word == "put":
            return self._put()
        if word == "if":
            return self._if()
        if word == "while":
            test = self.expression(0)
            return "while", test, self._block()
        if word == "match":
            return self._match()
        if word == "try":
            return self._try()
        return word, self.expression(0)

    def _put(self):
        kind = self._need("name")
        self._need("(")
        row = self.expression(0)
        self._need(",")
        index = self.expression(0)
        self._need(")")
        self._need("=")
        return "put", kind, row, index, self.expression(0)

    def _if(self):
        test = self.expression(0)
        block = self._block()
        return "if", test, block, self._block() if self._take("else") else ()

    def _match(self):
        worth = self.expression(0)
        self._need("{")
        self._need("name")
        branches = [self._branch()]
        while len(branches) < 4 and self._take("name"):
            branches.append(self._branch())
        self._need("}")
        return "match", worth, tuple(branches)

    def _branch(self):
        variant = self._taken()
        names = self._names_until_close() if self._take("(") else ()
        return variant, names, self._block()

    def _try(self):
        name = self._need("name")
        self._need("=")
        called = self._need("name")
        self._need("(")
        call = ("call", called, self._arguments())
        self._need("else")
        number = self._need("name")
        self._need(":")
        return "try", name, call, number, self.expression(0)

    def _sign(self, least, highest):
        """The next sign between two expressions, of a level from least to highest, None if none stands here."""
        for sign, level in LEVELS.items():
            if least <= level <= highest and self._take(sign):
                return sign
        return None

    def _thing(self):
        """What no sign stands in, but in parentheses."""
        if self._take("figures"):
            return "number", int(self._taken())
        if self._take("true") or self._take("false"):
            return "truth", self._taken() == "true"
        if self._take("name"):
            name = self._taken()
            return ("call", name, self._arguments()) if self._take("(") else ("name", name)
        if self._take("make"):
            variant = self._need("name")
            return "make", variant, self._expressions() if self._take("(") else ()
        for word in ("new", "at", "long"):
            if self._take(word):
                return self._row_thing(word)
        if self._nested == MOST_NESTED or not self._take("("):
            self._refuse()
        self._nested += 1
        found = self.expression(0)
        self._need(")")
        self._nested -= 1
        return found

    def _row_thing(self, word):
        kind = self._need("name")
        self._need("(")
        found = [self.expression(0)]
        if word != "long":
            self._need(",")
            found.append(self.expression(0))
        self._need(")")
        return (word, kind, *found)

    def _arguments(self):
        return () if self._take(")") else self._expressions()

    def _expressions(self):
        found = [self.expression(0)]
        while len(found) < 3 and self._take(","):
            found.append(self.expression(0))
        self._need(")")
        return tuple(found)
