"""Rows of steps of rewriting, and the compiler's own way."""

from stopanywhere.benches import Bench
from stopanywhere.blocks import copy_of, frames_of, is_context
from stopanywhere.charts import Chart
from stopanywhere.checks import check_codes, check_key, check_named
from stopanywhere.deeds import done
from stopanywhere.errors import BadRows, BadWord
from stopanywhere.finding import first_step
from stopanywhere.papermaking import paper_of
from stopanywhere.refusing import STEPS, has_step_form, why_refused
from stopanywhere.values import first_again, is_list, is_tuple_of

MOST_STEPS = 60
LEAN_WORDS = ("inline", "fold", "same", "alike", "twins", "merge", "spare", "dead")


def rewritten(scope, codes, rows):
    """The pair of the codes behind steps, a list of pairs (name, step), and the list of the changes."""
    check_codes(scope, codes)
    if not is_list(rows) or len(rows) > MOST_STEPS:
        raise BadRows(None)
    bench = Bench(scope, codes)
    changes = []
    for at, row in enumerate(rows):
        if not _is_row(bench, row) or why_refused(bench, row[0], row[1]) is not None:
            raise BadRows(at)
        changes.append(_changed(bench, row[0], row[1]))
    return bench.all_codes(), changes


def _is_row(bench, thing):
    if not is_tuple_of(thing, 2) or not isinstance(thing[0], str) or not bench.has(thing[0]):
        return False
    return has_step_form(thing[1])


def _changed(bench, name, step):
    """Does a step; the pair of the new code and its paper."""
    code, told = done(bench, name, step)
    chart = Chart(code, bench.scope)
    paper = paper_of(bench, name, step, chart, told)
    bench.put_in(name, code, chart)
    return copy_of(code), paper


def settled(scope, codes, name, words):
    """The list of the steps that are done, always the first one of the first word that has one, until none has."""
    check_codes(scope, codes)
    check_key(codes, name)
    if not is_list(words) or not all([isinstance(word, str) and word in STEPS for word in words]):
        raise BadWord("no list of words of steps")
    if first_again(words) is not None:
        raise BadWord("one word twice")
    bench = Bench(scope, codes)
    found = []
    step = first_step(bench, name, words)
    while step is not None:
        found.append(step)
        code, _ = done(bench, name, step)
        bench.put_in(name, code, Chart(code, scope))
        step = first_step(bench, name, words)
    return found


def lost_in(scope, code):
    """How many variables of all context rows are told as lost."""
    check_named(scope, code)
    found = 0
    for _, rows, _ in list(code[2].values()):
        for row in rows:
            if is_context(row):
                found += sum([len([told for told in frame[2] if told[2] == ("lost",)]) for frame in frames_of(row)])
    return found


def lean(scope, codes):
    """The pair of the codes behind the compiler's own steps, and the list of the changes."""
    check_codes(scope, codes)
    bench = Bench(scope, codes)
    changes = []
    for name in sorted(codes):
        step = first_step(bench, name, LEAN_WORDS)
        while step is not None:
            changes.append(_changed(bench, name, step))
            step = first_step(bench, name, LEAN_WORDS)
    return bench.all_codes(), changes
