"""The desk: a program that is made, run, stopped and asked by lines of words."""

from stopanywhere.errors import BadCount, BadTexts, NotTold
from stopanywhere.making import codes_at
from stopanywhere.moments import narrowed_to
from stopanywhere.pacing import Pace
from stopanywhere.plain import Program
from stopanywhere.sessions import Session
from stopanywhere.texts import places_of, read_unit
from stopanywhere.values import is_list, is_number_between
from stopanywhere.wording import joined, text_of_worth, words_of_line

MOST_TEXTS = 6


class Desk:
    """A run of a function that is led and asked by lines."""

    def __init__(self, texts, function, arguments, count):
        if not is_list(texts) or not 1 <= len(texts) <= MOST_TEXTS:
            raise BadTexts("no list of 1 to 6 texts")
        units = [read_unit(text) for text in texts]
        program = Program(units)
        pace = Pace(program, function, arguments)
        if not is_number_between(count, 6, 9):
            raise BadCount(count)
        self._program = program
        self._function = function
        self._arguments = list(arguments)
        self._registers = count
        self._pace = pace
        # By units their statements' places, by functions their units.
        self._places = {unit[1]: places_of(text) for unit, text in zip(units, texts)}
        self._homes = {tree[1]: unit[1] for unit in units for tree in unit[4]}
        self._codes = {}
        self._session = self._begun("placed")

    def say(self, line):
        """Does what a line says, or answers what it asks."""
        words = words_of_line(line)
        if words is None:
            return "what"
        action = ACTIONS[words[0]]
        rest = words[1:]
        return action(self, *rest)

    def _begun(self, level):
        """A session at the beginning of a run at a level."""
        if level not in self._codes:
            self._codes[level] = codes_at(self._program, level, self._registers)
        return Session(self._codes[level], self._function, self._arguments)

    def session(self):
        return self._session

    def pace(self):
        return self._pace

    def is_over(self):
        return self._session.end() != ("cut",)

    def place(self):
        """Where the desk is, as deeds answer."""
        end = self._session.end()
        if end[0] == "returned":
            return "ended"
        if end[0] == "failed":
            return f"failed {end[1]}"
        events = self._session.events()
        return f"point {self._pace.passed(events)} event {events}"

    def places_of_unit(self, unit):
        """The dict from the functions of a unit to the places of their statements, None for no unit of the desk."""
        return self._places.get(unit)

    def unit_of(self, function):
        return self._homes[function]

    def begin_at(self, level):
        """Leads the run at a level to the first state behind as many events, or to its end."""
        events, is_over = self._session.events(), self.is_over()
        self._session = self._begun(level)
        while not self.is_over() and (is_over or self._session.events() < events):
            self._session.forth(1)


def _forth(desk, many):
    return desk.place() if desk.session().forth(many) else "none"


def _back(desk, many):
    return desk.place() if desk.session().back(many) else "none"


def _next(desk):
    if desk.is_over():
        return "none"
    event = desk.pace().next_behind(desk.session().events(), None)
    if event is not None:
        desk.session().lead_to(event)
    while event is None and not desk.is_over():
        desk.session().forth(1)
    return desk.place()


def _last(desk):
    events = desk.session().events()
    event = desk.pace().last_ahead(events if desk.is_over() else events - 1)
    if event is None:
        return "none"
    desk.session().lead_to(event)
    return desk.place()


def _until(desk, unit, line):
    told = desk.places_of_unit(unit)
    if told is None:
        return "error BadName"
    wanted = {}
    for function in told:
        for point, (first, _) in enumerate(told[function]):
            if first == line:
                wanted[(function, point)] = True
    event = desk.pace().next_behind(desk.session().events(), wanted) if wanted else None
    if event is None:
        return "none"
    desk.session().lead_to(event)
    return desk.place()


def _change(desk, name):
    if desk.is_over():
        return "error NotTold"
    session = desk.session()
    try:
        found = session.last_other(len(session.told()) - 1, name)
    except NotTold:
        return "error NotTold"
    return "none" if found is None else desk.place()


def _collect(desk):
    session = desk.session()
    session.move([at + 1 for at in range(len(session.reached()))])
    return desk.place()


def _level(desk, word):
    desk.begin_at(word)
    return desk.place()


def _where(desk):
    if desk.is_over():
        return "none"
    return joined([word for function, point, _ in desk.session().told() for word in (function, point)])


def _line(desk):
    if desk.is_over():
        return "none"
    function, point, _ = desk.session().told()[-1]
    unit = desk.unit_of(function)
    return joined([unit, *desk.places_of_unit(unit)[function][point]])


def _names(desk):
    return "none" if desk.is_over() else joined(list(desk.session().told()[-1][2]))


def _worth(desk, name):
    if desk.is_over():
        return "none"
    worths = desk.session().told()[-1][2]
    if name not in worths:
        return "error BadName"
    if worths[name] == ("lost",):
        return "lost"
    moment = desk.session().moment()
    frames, rows, _ = narrowed_to(moment, [[] for _ in moment[0][1:]] + [[name]])
    return text_of_worth(frames[-1][2][0][1], rows)


def _shown(desk):
    return joined(desk.session().outputs())


ACTIONS = {
    "forth": _forth, "back": _back, "next": _next, "last": _last, "until": _until, "change": _change,
    "collect": _collect, "level": _level, "where": _where, "line": _line, "names": _names, "worth": _worth,
    "shown": _shown,
}
