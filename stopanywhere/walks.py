"""Walks: runs of named code with the moments that its marks and backs tell."""

from stopanywhere.errors import BadMost, BadWalk
from stopanywhere.picturing import WordMeeting
from stopanywhere.runner import Codes
from stopanywhere.values import is_number_between


def walk(codes, function, arguments, most):
    """The outputs, the end and the moments of a run of at most so many rows and ends."""
    if not isinstance(codes, Codes) or codes.level != "named":
        raise BadWalk("no codes of named code")
    machine = codes.begun(function, arguments)
    if not is_number_between(most, 0, 20000):
        raise BadMost("no number from 0 to 20000")
    moments = []
    _tell(machine, moments)
    for _ in range(most):
        if machine.end_told is None:
            if machine.advance():
                moments.append(_moment(machine))
            _tell(machine, moments)
    return list(machine.shown), _end(machine, codes.scope.gives(function)), moments


def _tell(machine, moments):
    """Where the run stands at a mark or a back, has its frames told by now, and adds the moment."""
    frames = machine.frames_to_tell()
    if frames != ():
        stand = machine.stands[-1]
        stand.told = tuple([_told_frame(frame, stand.places) for frame in frames])
        moments.append(_moment(machine))


def _told_frame(frame, places):
    """A frame with words in the place of formulas; what is lost is left out."""
    function, point, variables = frame
    told = [(name, kind, _told_word(formula, places)) for name, kind, formula in variables]
    return function, point, tuple([variable for variable in told if variable[2] is not None])


def _told_word(formula, places):
    """The word that a formula tells by places, None if it or a part of it is lost."""
    word = formula[0]
    if word == "is":
        return formula[1]
    if word == "of":
        _, place, sign, number = formula
        return sign * places[place] + number
    if word == "lost":
        return None
    _, variant, parts = formula
    told = [_told_word(part, places) for part in parts]
    return None if None in told else ("make", variant, tuple(told))


def _moment(machine):
    meeting = WordMeeting(machine.scope, machine.heap)
    frames = []
    for stand in machine.stands:
        for function, point, variables in stand.told:
            told = [(name, meeting.picture(kind, word)) for name, kind, word in variables]
            frames.append((function, point, tuple(told)))
    return tuple(frames), meeting.rows_met(), len(machine.shown)


def _end(machine, kind):
    """The end as moments tell worths; kind is that of what the run returns."""
    if machine.end_told is None:
        return ("cut",)
    if machine.end_told[0] == "failed":
        return machine.end_told
    meeting = WordMeeting(machine.scope, machine.heap)
    picture = meeting.picture(kind, machine.end_told[1])
    return "returned", picture, meeting.rows_met()
