"""Random named codes over numbers, for tests: first the ways, then what stands in the blocks."""


def held_everywhere(blocks, leads):
    """The dict from blocks to the sets of places that are given on every way to their first spot, parameters too.

    blocks tells the parameters and the places given by rows.
    """
    everything = {place for parameters, rows in blocks.values() for place in parameters + rows}
    held = {number: set(everything) for number in blocks}
    held[0] = set(blocks[0][0])
    is_changed = True
    while is_changed:
        is_changed = False
        for number in blocks:
            if number != 0:
                coming = [held[other] | set(blocks[other][1]) for other in blocks if number in leads[other]]
                found = set.intersection(*coming) | set(blocks[number][0])
                if found != held[number]:
                    held[number] = found
                    is_changed = True
    return held


class CodeMaker:
    def __init__(self, rng):
        self.rng = rng
        self.count = 0
        self.numbers = rng.sample(range(1, 60), 40)
        self.ends = {}
        self.parameters = {0: self.fresh(rng.randint(1, 3))}
        self.joins = [self.numbers.pop() for _ in range(rng.randint(1, 3))]
        for number in self.joins:
            self.parameters[number] = self.fresh(rng.randint(0, 3))
        self.add_end(0)
        for number in self.joins:
            self.add_end(number)

    def fresh(self, many):
        self.count += many
        return [f"v{at * 3}" for at in range(self.count - many, self.count)]

    def add_end(self, number):
        roll = self.rng.random()
        if roll < 0.5 and len(self.numbers) > 6:
            word = self.rng.choice(["branch", "branch", "try"])
            others = [self.numbers.pop(), self.numbers.pop()]
            for other in others:
                self.parameters[other] = self.fresh(1 if word == "try" else 0)
            self.ends[number] = [word] + others
            for other in others:
                self.add_end(other)
        elif roll < 0.9:
            self.ends[number] = ["jump", self.rng.choice(self.joins)]
        else:
            self.ends[number] = [self.rng.choice(["return", "fail"])]

    def code(self):
        """Named code of f(number ..) with numbers alone, that calls itself in tries; None if a block is not reached."""
        rng = self.rng
        leads = {number: end[1:] for number, end in self.ends.items()}
        met = [0]
        for number in met:
            met.extend(other for other in leads[number] if other not in met)
        keys = list(met)
        rng.shuffle(keys)
        given = {number: self.fresh(rng.randint(0, 2)) for number in keys}
        blocks = {number: (self.parameters[number], given[number]) for number in keys}
        held = held_everywhere(blocks, {number: leads[number] for number in keys})
        found = {}
        for number in keys:
            parameters = tuple((place, "number") for place in self.parameters[number])
            found[number] = (parameters,) + self.filled(number, sorted(held[number]), given[number])
        taken = len(self.parameters[0])
        return ("f", "number", found), taken

    def filled(self, number, held, given):
        rng = self.rng
        held = list(held)
        rows = [self.context("mark", number, held)]
        for place in given:
            word = rng.choice(["const", "copy", "plus", "less", "not"])
            some = [rng.choice(held) for _ in range(2)]
            rows.append({
                "const": (place, "const", rng.randint(-2, 2)), "copy": (place, "copy", some[0]),
                "plus": (place, "plus", *some), "less": (place, "less", *some), "not": (place, "not", some[0]),
            }[word])
            held.append(place)
            if rng.random() < 0.3:
                rows.append(self.context("still", number, held))
            if rng.random() < 0.3:
                rows.append((None, "show", rng.choice(held)))
        word = self.ends[number][0]
        if word == "jump":
            target = self.ends[number][1]
            some = held if rng.random() < 0.5 else [rng.choice(held)]
            return tuple(rows), ("jump", target, tuple(rng.choice(some) for _ in self.parameters[target]))
        if word == "branch":
            return tuple(rows), ("branch", rng.choice(held), *self.ends[number][1:])
        if word == "try":
            arguments = tuple(rng.choice(held) for _ in self.parameters[0])
            return tuple(rows), ("try", "f", arguments, *self.ends[number][1:])
        return tuple(rows), (word, rng.choice(held))

    def context(self, word, number, held):
        some = [place for place in held if self.rng.random() < 0.4]
        variables = tuple((f"a{'abcdefghijklmnopqrstuvwxyz'[at]}", "number", ("of", place, 1, 0))
                          for at, place in enumerate(some[:19]))
        return None, word, (("f", number, variables),)


def random_code(rng):
    """A pair: named code and how many numbers it takes."""
    return CodeMaker(rng).code()
