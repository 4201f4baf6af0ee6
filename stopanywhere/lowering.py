"""Lowering: the named code of functions."""

from stopanywhere.building import Builder
from stopanywhere.errors import NoFunction
from stopanywhere.forms import Scope
from stopanywhere.kinds import kinds_of
from stopanywhere.tidying import standing_in, tidied, without_standing_in


def scope_of(unit, faces):
    """The scope of what is in sight in a unit, with its own functions."""
    return _scope_by(unit, faces, kinds_of(unit, faces))


def _scope_by(unit, faces, told):
    kinds = list(unit[3])
    functions = {name: (told[name][0], told[name][1]) for name in told}
    for name in faces:
        _, _, declared, called = faces[name]
        kinds.extend(declared)
        for function, parameters, result in called:
            functions[function] = (parameters, result)
    return Scope(kinds, functions)


def named_code(unit, faces, name):
    """The named code of a function."""
    told = kinds_of(unit, faces)
    if not isinstance(name, str) or name not in told:
        raise NoFunction(name)
    functions = {function[1]: function for function in unit[4]}
    return _code_of(functions[name], _scope_by(unit, faces, told), told)


def named_codes(unit, faces):
    """The ascending dict from the own functions to their named code."""
    told = kinds_of(unit, faces)
    scope = _scope_by(unit, faces, told)
    functions = {function[1]: function for function in unit[4]}
    return {name: _code_of(functions[name], scope, told) for name in told}


def _code_of(function, scope, told):
    parameters, _, variables = told[function[1]]
    kinds = dict(zip(function[2], parameters))
    kinds.update(variables)
    in_code = {name: "number" if kinds[name] == "truth" else kinds[name] for name in kinds}
    code = Builder(function, scope, in_code).code()
    return tidied(without_standing_in(code, standing_in(code)))
