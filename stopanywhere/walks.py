"""Walks: runs of named code with the moments that its marks and backs tell."""

from stopanywhere.errors import BadMost, BadWalk
from stopanywhere.picturing import WordMeeting, pictured_end, word_of
from stopanywhere.runner import Codes
from stopanywhere.values import is_number_between


def walk(codes, function, arguments, most):
    """The outputs, the end and the moments of a run of at most so many rows and ends."""
    if not isinstance(codes, Codes) or codes.level != "named":
        raise BadWalk("no codes of named code")
    machine = codes.begun(function, arguments)
    if not is_number_between(most, 0, 20000):
        raise BadMost("no number from 0 to 20000")
    moments = []
    _tell(machine, moments)
    for _ in range(most):
        if machine.end_told is None:
            if machine.advance():
                moments.append(_moment(machine))
            _tell(machine, moments)
    end = pictured_end(machine.end_told, codes.scope.gives(function), codes.scope, machine.heap)
    return list(machine.shown), end, moments


def _tell(machine, moments):
    """Where the run stands at a mark or a back, has its frames told by now, and adds the moment."""
    frames = machine.frames_to_tell()
    if frames != ():
        stand = machine.stands[-1]
        stand.told = tuple([_told_frame(frame, stand.places) for frame in frames])
        moments.append(_moment(machine))


def _told_frame(frame, places):
    """A frame with words in the place of formulas; what is lost is left out."""
    function, point, variables = frame
    told = [(name, kind, word_of(formula, places)) for name, kind, formula in variables]
    return function, point, tuple([variable for variable in told if variable[2] is not None])


def _moment(machine):
    meeting = WordMeeting(machine.scope, machine.heap)
    frames = []
    for stand in machine.stands:
        for function, point, variables in stand.told:
            told = [(name, meeting.picture(kind, word)) for name, kind, word in variables]
            frames.append((function, point, tuple(told)))
    return tuple(frames), meeting.rows_met(), len(machine.shown)
