"""A test's own way of running codes, by what is said of rows, ends, frames and events."""


class Failing(Exception):
    def __init__(self, number):
        Exception.__init__(self)
        self.number = number


class CodeFrame:
    def __init__(self, code, words):
        self.code = code
        self.block = 0
        self.index = 0
        self.places = {place: word for (place, _), word in zip(code[2][0][0], words)}
        self.context = None
        self.waiting = False
        self.told = []


class CodeRun:
    """A run by codes, a dict from functions to codes; kinds tells declarations by their names."""

    def __init__(self, scope, codes, function, arguments, most):
        self.scope = scope
        self.codes = codes
        self.heap = {}
        self.shown = []
        self.moments = []
        self.most = most
        self.end = ("cut",)
        self.frames = [CodeFrame(codes[function], [int(word) for word in arguments])]
        while self.frames and len(self.moments) < most:
            self.advance()

    def event(self):
        self.moments.append(self.moment())

    def moment(self):
        meeting = Pictures(self.heap, self.scope)
        frames = []
        for frame in self.frames:
            for function, point, variables in frame.told:
                told = [(name, meeting.picture(kind, word)) for name, kind, word in variables]
                frames.append((function, point, tuple(told)))
        return tuple(frames), meeting.all_rows(), len(self.shown)

    def advance(self):
        frame = self.frames[-1]
        _, rows, end = frame.code[2][frame.block]
        try:
            if frame.index < len(rows):
                self.row(frame, rows[frame.index])
            else:
                self.do_end(frame, end)
        except Failing as failing:
            self.fail(failing.number)

    def fail(self, number):
        trace = tuple((f, point) for frame in self.frames for f, point, _ in frame.context)
        while self.frames:
            frame = self.frames[-1]
            _, rows, end = frame.code[2][frame.block]
            if frame.index == len(rows) and end[0] == "try" and frame.waiting:
                self.lead(frame, end[4], [number])
                self.event()
                return
            self.frames.pop()
        self.end = ("failed", number, trace)

    def lead(self, frame, block, words):
        parameters = frame.code[2][block][0]
        assert len(parameters) == len(words)
        for (place, _), word in zip(parameters, words):
            frame.places[place] = word
        frame.block, frame.index = block, 0

    def word_of(self, formula, frame):
        if formula[0] == "is":
            return formula[1]
        assert formula[0] == "of"
        return formula[2] * frame.places[formula[1]] + formula[3]

    def make_box(self, shape, words):
        address = len(self.heap) + 1
        self.heap[address] = (shape, list(words))
        return address

    def row(self, frame, row):
        place, word = row[:2]
        held = frame.places
        frame.index += 1
        if word in ("mark", "back", "still"):
            frame.context = row[2]
            if word != "still":
                frame.told = [
                    (f, point, [(name, kind, self.word_of(formula, frame)) for name, kind, formula in variables])
                    for f, point, variables in row[2]
                ]
                self.event()
            return
        if word == "show":
            self.shown.append(held[row[2]])
            self.event()
        elif word == "put":
            items = self.heap.get(held[row[3]], (None, []))[1]
            if not 0 <= held[row[4]] < len(items):
                raise Failing(-2)
            items[held[row[4]]] = held[row[5]]
            self.event()
        elif word == "call":
            frame.index -= 1
            frame.waiting = True
            self.frames.append(CodeFrame(self.codes[row[2]], [held[place] for place in row[3]]))
        else:
            held[place] = self.worked_out(word, row[2:], held)

    def worked_out(self, word, parts, held):
        if word == "const":
            return parts[0]
        if word == "copy":
            return held[parts[0]]
        if word == "not":
            return int(held[parts[0]] == 0)
        if word == "make":
            return self.make_box(parts[0], [held[place] for place in parts[1]])
        if word == "tag":
            shape = self.heap[held[parts[0]]][0]
            return self.scope.variants(self.scope.choice(shape)).index(shape)
        if word == "part":
            shape, words = self.heap[held[parts[2]]]
            return words[parts[1]] if shape == parts[0] else 0
        if word == "long":
            return len(self.heap[held[parts[1]]][1])
        if word == "new":
            if not 0 <= held[parts[1]] <= 50:
                raise Failing(-2)
            return self.make_box(parts[0], [held[parts[2]]] * held[parts[1]])
        if word == "at":
            items = self.heap[held[parts[1]]][1]
            if not 0 <= held[parts[2]] < len(items):
                raise Failing(-2)
            return items[held[parts[2]]]
        one, other = held[parts[0]], held[parts[1]]
        if word in ("over", "rest"):
            if other == 0:
                raise Failing(-1)
            return one // other if word == "over" else one % other
        return {
            "plus": lambda: one + other, "minus": lambda: one - other, "times": lambda: one * other,
            "less": lambda: int(one < other), "atmost": lambda: int(one <= other), "same": lambda: int(one == other),
        }[word]()

    def do_end(self, frame, end):
        held = frame.places
        if end[0] == "jump":
            self.lead(frame, end[1], [held[place] for place in end[2]])
        elif end[0] == "branch":
            self.lead(frame, end[2] if held[end[1]] != 0 else end[3], [])
        elif end[0] == "fail":
            raise Failing(held[end[1]])
        elif end[0] == "try":
            frame.waiting = True
            self.frames.append(CodeFrame(self.codes[end[1]], [held[place] for place in end[2]]))
        else:
            self.come_back(frame, held[end[1]])

    def come_back(self, frame, word):
        self.frames.pop()
        if not self.frames:
            meeting = Pictures(self.heap, self.scope)
            picture = meeting.picture(frame.code[1], word)
            self.end = ("returned", picture, meeting.all_rows())
            return
        frame = self.frames[-1]
        frame.waiting = False
        _, rows, end = frame.code[2][frame.block]
        if frame.index < len(rows):
            frame.places[rows[frame.index][0]] = word
            frame.index += 1
        else:
            self.lead(frame, end[3], [word])
        self.event()


class Pictures:
    def __init__(self, heap, scope):
        self.heap = heap
        self.scope = scope
        self.met = []

    def picture(self, kind, word):
        if kind == "number":
            return word
        shape, words = self.heap[word]
        if shape == kind:
            if word not in self.met:
                self.met.append(word)
            return "row", self.met.index(word)
        return shape, tuple(self.picture(k, w) for k, w in zip(self.scope.fields(shape), words))

    def all_rows(self):
        found = []
        while len(found) < len(self.met):
            shape, words = self.heap[self.met[len(found)]]
            found.append((shape, tuple(self.picture(self.scope.item(shape), word) for word in words)))
        return tuple(found)


def run_codes(scope, codes, function, arguments, most):
    """The outputs, the end and the moments, as told_run tells them."""
    run = CodeRun(scope, codes, function, arguments, most)
    return run.shown, run.end, run.moments[:most]
