"""Kinds: what is asked of variables and functions, or two uses that clash."""

from stopanywhere.asking import Asking, own_slots
from stopanywhere.classes import class_numbers, neighbours, shortest_clash, wanted_as
from stopanywhere.errors import BadPath, BadPoint, Faulty, KindClash, NoFunction
from stopanywhere.faulting import FaultFinder
from stopanywhere.parts import expressions_of, parts_of, statements_of
from stopanywhere.sights import Sight, check_unit, variables_of
from stopanywhere.values import ascending, is_number, is_number_between, is_tuple_of


def ties(unit, faces):
    """The list of the pairs of slots that must hold one kind."""
    return _asked(unit, faces).tied


def wants(unit, faces):
    """The list of the pairs of a slot and the kind that it must hold."""
    return _asked(unit, faces).wanted_kinds


def _asked(unit, faces):
    check_unit(unit, faces)
    found = FaultFinder(unit, faces).all_faults()
    if found:
        raise Faulty(found[0], unit[1])
    return Asking(unit, faces)


def clash(unit, faces):
    """A clash as short as can be, None if there is none."""
    asked = _asked(unit, faces)
    return shortest_clash(asked.tied, asked.wanted_kinds)


def is_clash(unit, faces, thing):
    """Whether any value is a clash of the unit, as short as can be."""
    asked = _asked(unit, faces)
    shortest = shortest_clash(asked.tied, asked.wanted_kinds)
    if shortest is None or not is_tuple_of(thing, 3):
        return False
    kind, other, way = thing
    if not isinstance(kind, str) or not isinstance(other, str) or not kind < other:
        return False
    if not is_tuple_of(way, len(shortest[2])) or not all([_is_slot(slot) for slot in way]):
        return False
    near = neighbours(asked.tied)
    if not all([after in near.get(slot, []) for slot, after in zip(way, way[1:])]):
        return False
    wanted = wanted_as(asked.wanted_kinds)
    return kind in wanted.get(way[0], {}) and other in wanted.get(way[-1], {})


def _is_slot(thing):
    """Whether any value has the form of a slot; True and False are no numbers in it."""
    if not isinstance(thing, tuple) or len(thing) < 2 or not all([isinstance(word, str) for word in thing[:2]]):
        return False
    if thing[0] == "place":
        return len(thing) == 4 and is_number(thing[2]) and _is_path(thing[3])
    if thing[0] == "parameter":
        return len(thing) == 3 and is_number(thing[2])
    return all([isinstance(word, str) for word in thing])


def _is_path(thing):
    return isinstance(thing, tuple) and all([is_number(at) for at in thing])


def is_sound(unit, faces):
    """Whether a unit has no fault and no clash."""
    check_unit(unit, faces)
    if FaultFinder(unit, faces).all_faults():
        return False
    return clash(unit, faces) is None


def kinds_of(unit, faces):
    """The dict from the own functions to the kinds of their parameters, of their result and of their variables."""
    told = _slot_kinds(unit, faces)
    found = {}
    for function in unit[4]:
        _, called, parameters, _ = function
        taken = tuple([told[("parameter", called, number)] for number in range(len(parameters))])
        variables = {name: told[("variable", called, name)] for name in variables_of(function)}
        found[called] = (taken, told[("result", called)], ascending(variables))
    return ascending(found)


def _slot_kinds(unit, faces):
    """The dict from all slots to their kinds."""
    asked = _asked(unit, faces)
    shortest = shortest_clash(asked.tied, asked.wanted_kinds)
    if shortest is not None:
        raise KindClash(shortest, unit[1])
    numbers = _class_numbers(unit, asked)
    kinds = {numbers[slot]: kind for slot, kind in asked.wanted_kinds}
    return {slot: kinds.get(numbers[slot], "number") for slot in numbers}


def _class_numbers(unit, asked):
    slots = [slot for function in unit[4] for slot in own_slots(function)]
    return class_numbers(slots + [slot for slot, _ in asked.wanted_kinds], asked.tied)


def kind_at(unit, faces, function, point, path):
    """The kind of an expression's place."""
    told = _slot_kinds(unit, faces)
    trees = {tree[1]: tree for tree in unit[4]}
    if not isinstance(function, str) or function not in trees:
        raise NoFunction(function)
    listed = statements_of(trees[function][3])
    if not is_number_between(point, 0, len(listed) - 1):
        raise BadPoint("no point of a statement")
    if not _is_path(path) or not _leads_to_expression(listed[point], path):
        raise BadPath("no place of an expression")
    return told[("place", function, point, path)]


def _leads_to_expression(statement, path):
    steps = expressions_of(statement)
    while steps:
        fitting = [(way, part) for way, part in steps if path[:len(way)] == way]
        if not fitting:
            return False
        way, part = fitting[0]
        if path == way:
            return True
        path = path[len(way):]
        steps = parts_of(part)
    return False


def as_told(unit, faces, kinds):
    """Whether any value is a table of kinds as kinds_of gives them, that no tie and no want is at odds with."""
    asked = _asked(unit, faces)
    sight = Sight(unit, faces)
    if not isinstance(kinds, dict) or len(kinds) != len(unit[4]):
        return False
    numbers = _class_numbers(unit, asked)
    pairs = [(numbers[slot], kind) for slot, kind in asked.wanted_kinds]
    for function in unit[4]:
        slots = own_slots(function)
        told = _kinds_told(function, kinds.get(function[1]))
        if told is None or not all([isinstance(kind, str) and sight.is_known(kind) for kind in told]):
            return False
        pairs.extend([(numbers[slot], kind) for slot, kind in zip(slots, told)])
    found = {}
    return all([found.setdefault(number, kind) == kind for number, kind in pairs])


def _kinds_told(function, thing):
    """What a table tells of a function: the list of kinds for own_slots, None if it has not the form."""
    if not is_tuple_of(thing, 3) or not is_tuple_of(thing[0], len(function[2])) or not isinstance(thing[2], dict):
        return None
    parameters, result, variables = thing
    names = variables_of(function)
    if len(variables) != len(names) or not all([name in variables for name in names]):
        return None
    return list(parameters) + [result] + [variables[name] for name in names]
