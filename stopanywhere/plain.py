"""The plain run: what a program does, told by its trees alone."""

from stopanywhere.courses import Course
from stopanywhere.errors import (
    BadArguments, BadChosen, BadMoment, BadMost, BadProgram, NoFunction, NotNow, TwoNames,
)
from stopanywhere.faceforms import names_of_face
from stopanywhere.faces import all_faces
from stopanywhere.moments import is_moment, narrowed_to
from stopanywhere.names import order_of
from stopanywhere.running import Run
from stopanywhere.values import first_again, is_list, is_number, is_number_between


class Program:
    """Units that are run together; no name of a function, a kind or a variant is told by two of them."""

    def __init__(self, units):
        faces = all_faces(units)
        told = sorted([name for unit in faces for name in names_of_face(faces[unit])])
        again = first_again(told)
        if again is not None:
            raise TwoNames(told[again])
        trees = {unit[1]: unit for unit in units}
        self.units = tuple([trees[name] for name in sorted(trees)])
        self.order = order_of(units)
        self.faces = faces
        self._courses = {}
        for unit in self.units:
            taken = {function: kinds for function, kinds, _ in faces[unit[1]][3]}
            for function in unit[4]:
                self._courses[function[1]] = Course(function, taken[function[1]])

    def __eq__(self, other):
        return isinstance(other, Program) and self.units == other.units

    def courses(self):
        """The dict from all functions to their courses."""
        return dict(self._courses)


class Plain:
    """A run of a function of a program, that goes on from event to event."""

    def __init__(self, program, function, arguments):
        courses = _checked_courses(program, function, arguments)
        self._run = Run(courses, function, list(arguments))
        self._events = 0

    def step(self):
        """Goes on to the next event, or to the end; its word."""
        while not self._run.is_over():
            word = self._run.advance()
            if word is not None:
                self._events += 1
                return word
        return "end"

    def go(self):
        """Goes on until the next point is passed, or to the end; whether one was."""
        word = self.step()
        while word not in ("point", "end"):
            word = self.step()
        return word == "point"

    def events(self):
        return self._events

    def moment(self):
        """The present moment."""
        if self._run.is_over():
            raise NotNow("end")
        if self._events == 0:
            raise NotNow("begin")
        return self._run.moment()

    def passed_point(self):
        """The function and the number of the point that go has come to."""
        return self._run.last_point()

    def outputs(self):
        """The list of the numbers shown so far."""
        return list(self._run.shown)

    def end(self):
        """The end; cut ahead of it."""
        return self._run.end_told


def _checked_courses(program, function, arguments):
    if not isinstance(program, Program):
        raise BadProgram("no program")
    courses = program.courses()
    if not isinstance(function, str) or function not in courses:
        raise NoFunction(function)
    taken = courses[function].taken
    if not all([kind in ("number", "truth") for kind in taken]):
        raise NoFunction(function)
    if not is_list(arguments) or len(arguments) != len(taken):
        raise BadArguments("no list of as many arguments as the function takes")
    for argument, kind in zip(arguments, taken):
        if not (isinstance(argument, bool) if kind == "truth" else is_number(argument)):
            raise BadArguments("an argument of another kind")
    return courses


def told_run(program, function, arguments, most):
    """The outputs, the end and the moments of a run of at most so many events."""
    run = Plain(program, function, arguments)
    if not is_number_between(most, 0, 20000):
        raise BadMost("no number from 0 to 20000")
    moments = []
    while run.events() < most and run.step() != "end":
        moments.append(run.moment())
    return run.outputs(), run.end(), moments


def narrowed(moment, chosen):
    """The moment with just the chosen variables told, a list of names for each frame."""
    if not is_moment(moment):
        raise BadMoment("no moment")
    frames, _, _ = moment
    if not is_list(chosen) or len(chosen) != len(frames):
        raise BadChosen("no list with an item for each frame")
    for frame, names in zip(frames, chosen):
        if not _are_told(frame, names):
            raise BadChosen("no list of different variables that are told there")
    return narrowed_to(moment, chosen)


def _are_told(frame, names):
    told = [name for name, _ in frame[2]]
    return is_list(names) and all([name in told for name in names]) and first_again(names) is None


def fits(moment, other):
    """Whether another moment, with just those variables told that this one tells, is this one."""
    if not is_moment(moment) or not is_moment(other):
        raise BadMoment("no moment")
    frames, _, _ = moment
    others, _, _ = other
    if [frame[:2] for frame in frames] != [frame[:2] for frame in others]:
        return False
    # Of a name that the other one does not tell nothing is left, and so they differ.
    chosen = [[name for name, _ in frame[2]] for frame in frames]
    return narrowed_to(other, chosen) == moment
