"""Making named code of a function, statement by statement."""

from stopanywhere.parts import parts_of, statements_of
from stopanywhere.sights import passages


class Path:
    """A block that is not ended yet: where the code goes on.

    names tells the places of the variables, frames what the mark that was passed last told. A block must begin with
    a context row: where no mark comes first, a still of these frames does.
    """

    def __init__(self, number, parameters, names, frames):
        self.number = number
        self.parameters = parameters
        self.names = dict(names)
        self.frames = frames
        self.rows = []

    def mark(self, frames):
        self.frames = frames
        self.rows.append((None, "mark", frames))

    def still(self):
        if not self.rows:
            self.rows.append((None, "still", self.frames))

    def go_on_in(self, number, parameters):
        """Goes on in another block, with the same variables."""
        self.number = number
        self.parameters = parameters
        self.rows = []


class Builder:
    """What makes the blocks of a function's code; paths tell where it is not ended yet."""

    def __init__(self, function, scope, kinds):
        """kinds tells the kinds, in code, of all variables."""
        _, self._function, parameters, block = function
        self._scope = scope
        self._kinds = kinds
        self._sights = [tuple(sorted(names)) for _, names, _ in passages(function)]
        self._blocks = {}
        self._block_count = 0
        self._place_count = 0
        self._point = 0
        names = {name: self._new_place() for name in parameters}
        taken = tuple([(names[name], kinds[name]) for name in parameters])
        self._add_block(block, [Path(self._new_block(), taken, names, ())])

    def code(self):
        return self._function, self._scope.gives(self._function), dict(self._blocks)

    def _new_place(self):
        self._place_count += 1
        return f"v{self._place_count - 1}"

    def _new_block(self):
        self._block_count += 1
        return self._block_count - 1

    def _fork(self, path, parameters):
        """A path in a new block, that goes on where this path stands."""
        return Path(self._new_block(), parameters, path.names, path.frames)

    def _emit(self, path, *row):
        path.still()
        path.rows.append(row)

    def _give(self, path, *row):
        """Adds a row that gives a new place; the place."""
        place = self._new_place()
        self._emit(path, place, *row)
        return place

    def _close(self, path, *end):
        path.still()
        self._blocks[path.number] = (path.parameters, tuple(path.rows), end)

    def _frames(self, point, names):
        told = [(name, self._kinds[name], ("of", names[name], 1, 0)) for name in self._sights[point]]
        return ((self._function, point, tuple(told)),)

    def _mark(self, path, point):
        path.mark(self._frames(point, path.names))

    def _joined(self, paths, point):
        """One path in the place of several ones, ahead of a mark of this point."""
        if len(paths) == 1:
            return paths[0]
        names = {}
        unlike = []
        for name in self._sights[point]:
            places = [path.names[name] for path in paths]
            names[name] = places[0]
            if places != [places[0] for _ in paths]:
                names[name] = self._new_place()
                unlike.append(name)
        parameters = tuple([(names[name], self._kinds[name]) for name in unlike])
        found = Path(self._new_block(), parameters, names, ())
        for path in paths:
            self._jump(path, found.number, unlike)
        return found

    def _jump(self, path, number, names):
        self._close(path, "jump", number, tuple([path.names[name] for name in names]))

    def _add_block(self, block, paths):
        """Goes on through a block; the paths that come out of it."""
        for statement in block:
            point = self._point
            self._point += 1
            path = self._joined(paths, point)
            self._mark(path, point)
            paths = self._add_statement(statement, path, point)
        return paths

    def _add_statement(self, statement, path, point):
        word = statement[0]
        if word == "while":
            return self._add_while(statement, path, point)
        if word == "if":
            return self._add_if(statement, path)
        if word == "match":
            return self._add_match(statement, path)
        if word == "try":
            return self._add_try(statement, path)
        if word == "put":
            row, index, thing = self._places(statement[2:], path)
            self._emit(path, None, "put", statement[1], row, index, thing)
            return [path]
        place = self._place(statement[-1], path)
        if word in ("return", "fail"):
            self._close(path, word, place)
            return []
        if word == "show":
            self._emit(path, None, "show", place)
        else:
            path.names[statement[1]] = place
        return [path]

    def _branch(self, path, place):
        """Ends a path by a branch; the paths for any number but 0, and for 0."""
        first = self._fork(path, ())
        second = self._fork(path, ())
        self._close(path, "branch", place, first.number, second.number)
        return first, second

    def _add_if(self, statement, path):
        first, second = self._branch(path, self._place(statement[1], path))
        paths = self._add_block(statement[2], [first])
        return paths + self._add_block(statement[3], [second])

    def _add_while(self, statement, path, point):
        # A mark stands wherever the truth is to be worked out anew, and leads to one block that works it out. So
        # this block may follow on block 0, to which nothing leads back.
        given_anew = [inner[1] for inner in statements_of(statement[2]) if inner[0] == "set"]
        changed = [name for name in self._sights[point] if name in given_anew]
        names = dict(path.names)
        for name in changed:
            names[name] = self._new_place()
        parameters = tuple([(names[name], self._kinds[name]) for name in changed])
        test = Path(self._new_block(), parameters, names, self._frames(point, names))
        number = test.number
        self._jump(path, number, changed)
        first, second = self._branch(test, self._place(statement[1], test))
        paths = self._add_block(statement[2], [first])
        if paths:
            last = self._joined(paths, point)
            self._mark(last, point)
            self._jump(last, number, changed)
        return [second]

    def _add_match(self, statement, path):
        _, expression, branches = statement
        worth = self._place(expression, path)
        variants = self._scope.variants(self._scope.choice(branches[0][0]))
        tag = self._give(path, "tag", worth) if len(branches) > 1 else ""
        paths = []
        for at, (variant, names, block) in enumerate(branches):
            first = path
            if at < len(branches) - 1:
                number = self._give(path, "const", variants.index(variant))
                first, path = self._branch(path, self._give(path, "same", tag, number))
            for part, name in enumerate(names):
                first.names[name] = self._give(first, "part", variant, part, worth)
            paths.extend(self._add_block(block, [first]))
        return paths

    def _add_try(self, statement, path):
        _, name, call, number, last = statement
        arguments = tuple(self._places(call[2], path))
        came, failure = self._new_place(), self._new_place()
        first = self._fork(path, ((came, self._scope.gives(call[1])),))
        second = self._fork(path, ((failure, "number"),))
        self._close(path, "try", call[1], arguments, first.number, second.number)
        first.names[name] = came
        second.names[number] = failure
        second.names[name] = self._place(last, second)
        return [first, second]

    def _places(self, expressions, path):
        return [self._place(expression, path) for expression in expressions]

    def _place(self, expression, path):
        """The place of an expression's word, behind rows that work it out; the path may go on in another block."""
        word = expression[0]
        if word == "name":
            return path.names[expression[1]]
        if word in ("number", "truth"):
            return self._give(path, "const", int(expression[1]))
        if word in ("and", "or"):
            return self._decided_place(expression, path)
        places = self._places([part for _, part in parts_of(expression)], path)
        if word in ("call", "make"):
            return self._give(path, word, expression[1], tuple(places))
        if word in ("new", "at", "long"):
            return self._give(path, word, expression[1], *places)
        return self._give(path, word, *places)

    def _decided_place(self, expression, path):
        word, one, other = expression
        place = self._place(one, path)
        first, second = self._branch(path, place)
        further, decided = (first, second) if word == "and" else (second, first)
        number, found = self._new_block(), self._new_place()
        self._close(decided, "jump", number, (place,))
        last = self._place(other, further)
        self._close(further, "jump", number, (last,))
        path.go_on_in(number, ((found, "number"),))
        return found
