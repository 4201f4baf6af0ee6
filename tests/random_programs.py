"""Random programs of sound units, for tests: trees are made kind by kind."""

from stopanywhere.words import is_name

LETTERS = "abcdefghijklmnopqrstuvwxyz"


def word_of(number):
    """A name's letters from a number on."""
    found = ""
    while True:
        found = LETTERS[number % 26] + found
        number = number // 26 - 1
        if number < 0:
            return found


class Namer:
    def __init__(self):
        self._count = 0

    def fresh(self, head):
        while True:
            name = head + word_of(self._count)
            self._count += 1
            if is_name(name):
                return name


class ProgramMaker:
    """What makes a list of units from a random source."""

    def __init__(self, rng, most_units=3):
        self.rng = rng
        self.namer = Namer()
        self.units = []
        self.kinds = {}
        self.functions = {}
        self.parents = {}
        for _ in range(rng.randint(1, most_units)):
            self.add_unit()

    def add_unit(self):
        rng = self.rng
        used = tuple(unit[1] for unit in self.units) if rng.random() < 0.7 else ()
        if not used:
            self.kinds, self.functions = {}, {}
        name = self.namer.fresh("u")
        kinds = dict(self.kinds)
        declarations = []
        for _ in range(rng.randint(0, 3)):
            declarations.append(self.declaration(kinds))
        functions = {}
        for _ in range(rng.randint(1, 3)):
            taken = tuple(self.any_kind(kinds) for _ in range(rng.randint(0, 3)))
            functions[self.namer.fresh("f")] = (taken, self.any_kind(kinds))
        first = next(iter(functions))
        functions[first] = (tuple(rng.choice(["number", "truth"]) for _ in functions[first][0]), functions[first][1])
        told = {**self.functions, **functions}
        trees = [FunctionMaker(self, kinds, told, f).tree() for f in functions]
        self.kinds, self.functions = kinds, told
        shuffled = list(used)
        rng.shuffle(shuffled)
        self.units.append(("unit", name, tuple(shuffled), tuple(declarations), tuple(trees)))

    def any_kind(self, kinds):
        return self.rng.choice(["number", "truth"] + list(kinds) * 2)

    def declaration(self, kinds):
        rng = self.rng
        name = self.namer.fresh("k")
        if rng.random() < 0.4:
            found = ("row", name, self.any_kind(kinds))
            kinds[name] = found
            return found
        variants = [(self.namer.fresh("w"), tuple(rng.choice(["number", "truth"]) for _ in range(rng.randint(0, 2))))]
        for _ in range(rng.randint(0, 3)):
            fields = [self.any_kind(kinds) for _ in range(rng.randint(0, 2))]
            if rng.random() < 0.5:
                fields.append(name)
            variants.append((self.namer.fresh("w"), tuple(fields)))
        found = ("choice", name, tuple(variants))
        kinds[name] = found
        return found


class FunctionMaker:
    def __init__(self, maker, kinds, functions, name):
        self.maker = maker
        self.rng = maker.rng
        self.kinds = kinds
        self.functions = functions
        self.name = name
        self.left = self.rng.randint(4, 30)
        # Most functions call only those ahead of them, so that many runs come to their end.
        names = list(functions)
        is_free = self.rng.random() < 0.15
        self.callable = names if is_free else names[:names.index(name)]

    def tree(self):
        taken, result = self.functions[self.name]
        names = [self.maker.namer.fresh("p") for _ in taken]
        env = list(zip(names, taken))
        fixed = tuple(
            ("if", ("truth", False), (("set", name, self.base(kind)),), ()) for name, kind in env
        )
        block = fixed + self.block(env, 3, result)
        return "function", self.name, tuple(names), block

    def block(self, env, depth, result):
        """Statements; if result is a kind they end."""
        env = list(env)
        found = []
        for _ in range(self.rng.randint(0 if depth < 3 else 2, 4)):
            if self.left > 0:
                self.left -= 1
                found.extend(self.statements(env, depth))
        if result is not None:
            found.append(self.ending(env, depth, result))
        return tuple(found)

    def ending(self, env, depth, result):
        roll = self.rng.random()
        if roll < 0.1:
            return "fail", self.expression("number", env, 2)
        if roll < 0.25 and depth > 0:
            return (
                "if", self.expression("truth", env, 2), self.block(env, depth - 1, result),
                self.block(env, depth - 1, result),
            )
        if roll < 0.4 and depth > 0 and self.choices():
            return self.match(env, depth, result)
        return "return", self.expression(result, env, 2)

    def choices(self):
        return [kind for kind in self.kinds if self.kinds[kind][0] == "choice"]

    def rows(self):
        return [kind for kind in self.kinds if self.kinds[kind][0] == "row"]

    def fresh(self):
        return self.maker.namer.fresh("v")

    def statements(self, env, depth):
        rng = self.rng
        roll = rng.random()
        if roll < 0.25:
            kind = self.maker.any_kind(self.kinds)
            expression = self.expression(kind, env, 2)
            name = self.fresh()
            env.append((name, kind))
            return [("let", name, expression)]
        if roll < 0.4 and env:
            name, kind = rng.choice(env)
            return [("set", name, self.expression(kind, env, 2))]
        if roll < 0.55:
            return [("show", self.expression("number", env, 2))]
        if roll < 0.65 and self.rows():
            return self.put(env)
        if roll < 0.75 and depth > 0:
            test = self.expression("truth", env, 2)
            first = self.block(env, depth - 1, None)
            second = self.block(env, depth - 1, None) if rng.random() < 0.6 else ()
            return [("if", test, first, second)]
        if roll < 0.83 and depth > 0:
            return self.loop(env, depth)
        if roll < 0.9 and depth > 0 and self.choices():
            return [self.match(env, depth, None)]
        return self.try_statement(env) if self.callable else []

    def put(self, env):
        kind = self.rng.choice(self.rows())
        row = self.expression(kind, env, 1)
        index = ("number", self.rng.choice([0, 0, 0, 1, 1, 2, -1])) if self.rng.random() < 0.8 else self.number(env)
        return [("put", kind, row, index, self.expression(self.kinds[kind][2], env, 1))]

    def number(self, env):
        return self.expression("number", env, 1)

    def loop(self, env, depth):
        if self.rng.random() < 0.3:
            return [("while", self.expression("truth", env, 2), self.block(env, depth - 1, None))]
        name = self.fresh()
        env.append((name, "number"))
        test = ("less", ("name", name), ("number", self.rng.randint(0, 4)))
        if self.rng.random() < 0.3:
            test = ("and", test, self.expression("truth", env, 1))
        grow = ("set", name, ("plus", ("name", name), ("number", 1)))
        block = self.block(env, depth - 1, None)
        return [("let", name, ("number", 0)), ("while", test, (grow,) + block)]

    def match(self, env, depth, result):
        kind = self.rng.choice(self.choices())
        worth = self.expression(kind, env, 2)
        branches = []
        for variant, fields in self.kinds[kind][2]:
            names = [self.fresh() for _ in fields]
            inner = env + list(zip(names, fields))
            branches.append((variant, tuple(names), self.block(inner, depth - 1, result)))
        self.rng.shuffle(branches)
        return "match", worth, tuple(branches)

    def try_statement(self, env):
        called = self.rng.choice(self.callable)
        taken, result = self.functions[called]
        call = ("call", called, tuple(self.expression(kind, env, 1) for kind in taken))
        name, number = self.fresh(), self.fresh()
        last = self.expression(result, env + [(number, "number")], 1)
        env.append((name, result))
        return [("try", name, call, number, last)]

    def base(self, kind):
        """An expression of a kind without variables and calls."""
        if kind == "number":
            return "number", self.rng.choice([0, 1, 2, 3, -1, 7])
        if kind == "truth":
            return "truth", self.rng.random() < 0.5
        declared = self.kinds[kind]
        if declared[0] == "row":
            return "new", kind, ("number", self.rng.choice([0, 1, 2, 2, 3])), self.base(declared[2])
        variant, fields = declared[2][0]
        return "make", variant, tuple(self.base(field) for field in fields)

    def expression(self, kind, env, depth):
        rng = self.rng
        fitting = [name for name, other in env if other == kind]
        if fitting and rng.random() < 0.45:
            return "name", rng.choice(fitting)
        if depth == 0:
            return self.base(kind)
        calls = [f for f in self.callable if self.functions[f][1] == kind]
        if calls and rng.random() < 0.2:
            called = rng.choice(calls)
            return "call", called, tuple(self.expression(k, env, depth - 1) for k in self.functions[called][0])
        rows = [row for row in self.rows() if self.kinds[row][2] == kind]
        if rows and rng.random() < 0.2:
            row = rng.choice(rows)
            return "at", row, self.expression(row, env, depth - 1), ("number", rng.choice([0, 0, 0, 1, 2, -1]))
        if kind == "number":
            return self.number_expression(env, depth)
        if kind == "truth":
            return self.truth_expression(env, depth)
        declared = self.kinds[kind]
        if declared[0] == "row":
            length = ("number", rng.choice([0, 1, 2, 2, 3, 3, 3, -1, 50, 51] if rng.random() < 0.2 else [1, 2, 3]))
            return "new", kind, length, self.expression(declared[2], env, depth - 1)
        variant, fields = rng.choice(declared[2])
        return "make", variant, tuple(self.expression(field, env, depth - 1) for field in fields)

    def number_expression(self, env, depth):
        rng = self.rng
        roll = rng.random()
        if roll < 0.15 and self.rows():
            row = rng.choice(self.rows())
            return "long", row, self.expression(row, env, depth - 1)
        one = self.expression("number", env, depth - 1)
        if roll < 0.3:
            return "times", one, ("number", rng.randint(-3, 3))
        if roll < 0.45:
            other = ("number", rng.choice([1, 2, 3, -2, 0]))
            return rng.choice(["over", "rest"]), one, other
        return rng.choice(["plus", "minus"]), one, self.expression("number", env, depth - 1)

    def truth_expression(self, env, depth):
        rng = self.rng
        if rng.random() < 0.4:
            word = rng.choice(["and", "or", "not"])
            parts = tuple(self.expression("truth", env, depth - 1) for _ in range(1 if word == "not" else 2))
            return (word,) + parts
        parts = tuple(self.expression("number", env, depth - 1) for _ in range(2))
        return (rng.choice(["less", "atmost", "same"]),) + parts


def random_units(rng, most_units=3):
    return ProgramMaker(rng, most_units).units
