"""The judge: whether a new code does what the old one does, by a paper alone."""

from stopanywhere.blocks import reads_of_row
from stopanywhere.cases import Case, are_old_codes, checked_case
from stopanywhere.duels import Duel
from stopanywhere.errors import BadChanges, BadCodes, BadPaper, BadScope
from stopanywhere.forms import Scope, is_named, is_placed
from stopanywhere.holding import Holdings
from stopanywhere.parting import parting_numbers
from stopanywhere.values import is_list, is_tuple_of

MOST_CHANGES = 60


def judge(scope, codes, code, paper):
    """The first spot of a new code at which the sides differ, as (block, index, word); None if there is none."""
    return _refusal(_checked(scope, codes, code, paper), paper)


def judge_all(scope, codes, changes):
    """The first refusal of changes, one behind another, behind its index; None if there is none."""
    if not isinstance(scope, Scope):
        raise BadScope("no scope")
    if not are_old_codes(scope, codes):
        raise BadCodes(None)
    if not is_list(changes) or len(changes) > MOST_CHANGES:
        raise BadChanges(None)
    cases = _cases(scope, codes, changes)
    for at, (case, (_, paper)) in enumerate(zip(cases, changes)):
        refusal = _refusal(case, paper)
        if refusal is not None:
            return (at, *refusal)
    return None


def parted(scope, codes, code, paper):
    """Numbers for the places of a block from which on both sides differ; None where none are told."""
    case = _checked(scope, codes, code, paper)
    found = _first_wrong(case, paper)
    if found is None:
        return None
    number, duel, (_, (_, pairs), is_open) = found
    held = case.new_held[number]
    facts = paper[number][1]
    places = [place for row in facts for place in [row[0]] + reads_of_row(row)]
    if not is_open or not all([held[place] == "number" for place in places]):
        return None
    return parting_numbers(duel.book, pairs, facts, held)


def _checked(scope, codes, code, paper):
    case = checked_case(scope, codes, code)
    if not case.is_paper(paper):
        raise BadPaper("no paper of the code")
    return case


def _cases(scope, codes, changes):
    """The case of each change, for codes in which those ahead of it have replaced others."""
    codes = {name: codes[name] for name in codes}
    levels = {name: _levels(scope, codes[name]) for name in codes}
    found = []
    for at, change in enumerate(changes):
        if not is_tuple_of(change, 2) or _levels(scope, change[0]) == (False, False) or change[0][0] not in codes:
            raise BadChanges(at)
        code, paper = change
        case = Case(scope, codes, code, Holdings(codes, scope))
        levels[code[0]] = _levels(scope, code)
        if not _are_of_one_level(list(levels.values())) or not case.is_paper(paper):
            raise BadChanges(at)
        found.append(case)
        codes = {name: codes[name] for name in codes}
        codes[code[0]] = code
    return found


def _levels(scope, thing):
    """Whether any value is named code, and whether it is placed code."""
    return is_named(thing, scope), is_placed(thing, scope, 9)


def _are_of_one_level(levels):
    return all([told[0] for told in levels]) or all([told[1] for told in levels])


def _refusal(case, paper):
    found = _first_wrong(case, paper)
    if found is None:
        return None
    number, _, (at, (word, _), _) = found
    return number, at, word


def _first_wrong(case, paper):
    """The first block in which something is not so, its duel, and what it is; None if there is none."""
    for number in sorted(case.code[2]):
        duel = Duel(case, paper, number)
        wrong = duel.first_wrong()
        if wrong is not None:
            return number, duel, wrong
    return None
