"""The plain run: frames over courses, step by step, from event to event."""

from stopanywhere.moments import Meeting, RowBox

DIVIDED_BY_NOTHING = -1
OUTSIDE_OF_ROW = -2
MOST_ITEMS = 50


class Frame:
    """A call of a function: where it stands, its stack of worths, its variables, and the point that it passed last.

    handler is the step at which it goes on if the call that it waits for fails; None if that is not caught.
    """

    def __init__(self, course, worths):
        self.course = course
        self.at = 0
        self.stack = []
        self.variables = dict(zip(course.parameters, worths))
        self.point = None
        self.handler = None

    def take(self, many):
        """Takes so many worths from the stack, in the order in which they came."""
        behind = len(self.stack) - many
        found = self.stack[behind:]
        del self.stack[behind:]
        return found


class Run:
    """A run of a function, by a dict of courses."""

    def __init__(self, courses, function, arguments):
        self._courses = courses
        self.frames = [Frame(courses[function], arguments)]
        self.shown = []
        self.end_told = ("cut",)

    def is_over(self):
        return self.frames == []

    def advance(self):
        """Does one step; the word of the event that it was, None if it was none."""
        frame = self.frames[-1]
        step = frame.course.steps[frame.at]
        frame.at += 1
        action = ACTIONS[step[0]]
        return action(self, frame, step)

    def begin_call(self, frame, called, many):
        self.frames.append(Frame(self._courses[called], frame.take(many)))

    def give_back(self, worth):
        """Ends the last frame with a worth."""
        self.frames.pop()
        if self.frames:
            frame = self.frames[-1]
            frame.handler = None
            frame.stack.append(worth)
            return "back"
        meeting = Meeting()
        picture = meeting.picture(worth)
        self.end_told = ("returned", picture, meeting.rows_met())
        return None

    def end_by_failure(self, number):
        """Ends frames up to the one whose try catches the failure, all if none does."""
        trace = tuple([(frame.course.called, frame.point) for frame in self.frames])
        while self.frames and self.frames[-1].handler is None:
            self.frames.pop()
        if self.frames:
            frame = self.frames[-1]
            frame.at = frame.handler
            frame.handler = None
            frame.stack.append(number)
            return "back"
        self.end_told = ("failed", number, trace)
        return None

    def last_point(self):
        """The function of the last frame, and the number of the point that it passed last."""
        frame = self.frames[-1]
        return frame.course.called, frame.point

    def moment(self):
        """The moment, told by what the frames passed last."""
        meeting = Meeting()
        told = []
        for frame in self.frames:
            if frame.point is not None:
                names = frame.course.sights[frame.point]
                variables = [(name, meeting.picture(frame.variables[name])) for name in names]
                told.append((frame.course.called, frame.point, tuple(variables)))
        return tuple(told), meeting.rows_met(), len(self.shown)


def _pass_point(run, frame, step):
    _, frame.point = step
    return "point"


def _push(run, frame, step):
    frame.stack.append(step[1])
    return None


def _load(run, frame, step):
    frame.stack.append(frame.variables[step[1]])
    return None


def _store(run, frame, step):
    frame.variables[step[1]] = frame.stack.pop()
    return None


def _jump(run, frame, step):
    frame.at = step[1]
    return None


def _jump_unless(run, frame, step):
    if not frame.stack.pop():
        frame.at = step[1]
    return None


def _decide(run, frame, step):
    """The second part of and, and of or, is worked out only if the first one does not decide."""
    word, behind = step
    if frame.stack[-1] == (word == "or"):
        frame.at = behind
    else:
        frame.stack.pop()
    return None


def _turn(run, frame, step):
    frame.stack.append(not frame.stack.pop())
    return None


def _reckon(run, frame, step):
    one, other = frame.take(2)
    frame.stack.append(reckoned(step[0], one, other))
    return None


def reckoned(word, one, other):
    """What plus, minus and times, or less, atmost and same, make of two numbers."""
    if word == "plus":
        return one + other
    if word == "minus":
        return one - other
    if word == "times":
        return one * other
    if word == "less":
        return one < other
    if word == "atmost":
        return one <= other
    return one == other


def _divide(run, frame, step):
    one, other = frame.take(2)
    if other == 0:
        return run.end_by_failure(DIVIDED_BY_NOTHING)
    frame.stack.append(one // other if step[0] == "over" else one % other)
    return None


def _call(run, frame, step):
    _, called, many = step
    run.begin_call(frame, called, many)
    return None


def _try(run, frame, step):
    _, called, many, frame.handler = step
    run.begin_call(frame, called, many)
    return None


def _make(run, frame, step):
    _, variant, many = step
    parts = frame.take(many)
    frame.stack.append((variant, tuple(parts)))
    return None


def _new(run, frame, step):
    length, worth = frame.take(2)
    if not 0 <= length <= MOST_ITEMS:
        return run.end_by_failure(OUTSIDE_OF_ROW)
    frame.stack.append(RowBox(step[1], [worth] * length))
    return None


def _at(run, frame, step):
    row, index = frame.take(2)
    if not 0 <= index < len(row.held):
        return run.end_by_failure(OUTSIDE_OF_ROW)
    frame.stack.append(row.held[index])
    return None


def _long(run, frame, step):
    row = frame.stack.pop()
    frame.stack.append(len(row.held))
    return None


def _put(run, frame, step):
    row, index, worth = frame.take(3)
    if not 0 <= index < len(row.held):
        return run.end_by_failure(OUTSIDE_OF_ROW)
    row.held[index] = worth
    return "put"


def _show(run, frame, step):
    run.shown.append(frame.stack.pop())
    return "show"


def _match(run, frame, step):
    variant, parts = frame.stack.pop()
    names, frame.at = step[1][variant]
    for name, part in zip(names, parts):
        frame.variables[name] = part
    return None


def _return(run, frame, step):
    return run.give_back(frame.stack.pop())


def _fail(run, frame, step):
    return run.end_by_failure(frame.stack.pop())


ACTIONS = {
    "point": _pass_point, "push": _push, "load": _load, "store": _store, "jump": _jump, "unless": _jump_unless,
    "and": _decide, "or": _decide, "not": _turn, "plus": _reckon, "minus": _reckon, "times": _reckon,
    "less": _reckon, "atmost": _reckon, "same": _reckon, "over": _divide, "rest": _divide, "call": _call,
    "try": _try, "make": _make, "new": _new, "at": _at, "long": _long, "put": _put, "show": _show,
    "match": _match, "return": _return, "fail": _fail,
}
