"""Reports of runs: what the spots at which frames stand tell, in words of the source."""

from stopanywhere.picturing import WordMeeting, word_of
from stopanywhere.values import ascending


def told_frames(codes, machine):
    """The list of the frames that are told, outermost first, each with words, None of what is lost, for formulas."""
    found = []
    last = len(machine.stands) - 1
    for at, stand in enumerate(machine.stands):
        for function, point, variables in codes.teller(stand.function).frames(stand.block, stand.at, at < last):
            told = [(name, kind, word_of(formula, stand.places)) for name, kind, formula in variables]
            found.append((function, point, told))
    return found


def told_worths(codes, machine):
    """The pair of the list of triples (function, point, worths) of all told frames, and of the rows that are met.

    worths is the ascending dict from the variables to ("is", picture) or ("lost",).
    """
    meeting = WordMeeting(codes.scope, machine.heap)
    found = []
    for function, point, variables in told_frames(codes, machine):
        worths = {}
        for name, kind, word in variables:
            worths[name] = ("lost",) if word is None else ("is", meeting.picture(kind, word))
        found.append((function, point, ascending(worths)))
    return found, meeting.rows_met()


def told_moment(codes, machine):
    """The present moment; what is lost is left out."""
    told, rows = told_worths(codes, machine)
    frames = []
    for function, point, worths in told:
        variables = [(name, worths[name][1]) for name in worths if worths[name] != ("lost",)]
        frames.append((function, point, tuple(variables)))
    return tuple(frames), rows, len(machine.shown)


def told_alone(codes, machine, depth, name):
    """The picture of a variable of a told frame, with the rows that are met through it alone.

    None where the variable is not told or lost, () where so many frames are not told.
    """
    frames = told_frames(codes, machine)
    if depth >= len(frames):
        return ()
    for variable, kind, word in frames[depth][2]:
        if variable == name and word is not None:
            meeting = WordMeeting(codes.scope, machine.heap)
            return meeting.picture(kind, word), meeting.rows_met()
    return None
