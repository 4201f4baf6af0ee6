"""Steps of rewriting: which may be done, and what they make of a code."""

from stopanywhere.benches import Bench
from stopanywhere.blocks import copy_of
from stopanywhere.charts import Chart
from stopanywhere.checks import check_codes, check_key
from stopanywhere.deeds import done
from stopanywhere.errors import BadStep, BadWord, Refused
from stopanywhere.finding import all_steps
from stopanywhere.papermaking import paper_of
from stopanywhere.refusing import STEPS, has_step_form, why_refused


def stepped(scope, codes, name, step):
    """The pair of the new code and its paper; refuses a step that may not be done."""
    bench = _bench_for(scope, codes, name, step)
    reason = why_refused(bench, name, step)
    if reason is not None:
        raise Refused(reason)
    code, told = done(bench, name, step)
    return copy_of(code), paper_of(bench, name, step, Chart(code, scope), told)


def is_step(scope, codes, name, thing):
    """Whether any value is a step that may be done."""
    bench = _checked_bench(scope, codes, name)
    return has_step_form(thing) and why_refused(bench, name, thing) is None


def steps_of(scope, codes, name, word):
    """The ascending list of all steps with this first word that may be done."""
    bench = _checked_bench(scope, codes, name)
    if not isinstance(word, str) or word not in STEPS:
        raise BadWord("no word of steps")
    return all_steps(bench, name, word)


def refusal(scope, codes, name, step):
    """The first reason why a step may not be done, None if it may be."""
    return why_refused(_bench_for(scope, codes, name, step), name, step)


def _checked_bench(scope, codes, name):
    check_codes(scope, codes)
    check_key(codes, name)
    return Bench(scope, codes)


def _bench_for(scope, codes, name, step):
    bench = _checked_bench(scope, codes, name)
    if not has_step_form(step):
        raise BadStep("nothing of the form of a step")
    return bench
