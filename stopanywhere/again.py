"""Compiled again: just those units whose own text, or a face that they use, has changed."""

from stopanywhere.errors import BadObjects, BadRegisters
from stopanywhere.faces import all_faces
from stopanywhere.names import order_of
from stopanywhere.objectforms import copied_object, has_object_form, is_number_of_registers
from stopanywhere.objects import object_of
from stopanywhere.values import ascending
from stopanywhere.words import is_name


def build(units, objects, registers):
    """The pair of the dict from the units' names to their objects, and of the tuple of the units that were compiled."""
    faces, wanted = _looked_at(units, objects, registers)
    trees = {unit[1]: unit for unit in units}
    found = {}
    for name in trees:
        if name in wanted:
            found[name] = object_of(trees[name], {other: faces[other] for other in trees[name][2]}, registers)
        else:
            found[name] = copied_object(objects[name])
    return ascending(found), wanted


def stale(units, objects, registers):
    """The tuple of the units that are to be compiled."""
    _, wanted = _looked_at(units, objects, registers)
    return wanted


def _looked_at(units, objects, registers):
    """The faces of all units, and the tuple of the names of those that are to be compiled."""
    order = order_of(units)
    _check_objects(objects)
    if not is_number_of_registers(registers):
        raise BadRegisters("no number from 6 to 9")
    faces = all_faces(units)
    trees = {unit[1]: unit for unit in units}
    return faces, tuple([name for name in order if _is_stale(trees[name], faces, objects.get(name), registers)])


def _check_objects(objects):
    if not isinstance(objects, dict) or not all([is_name(name) for name in objects]):
        raise BadObjects(None)
    for name in sorted(objects):
        if not has_object_form(objects[name]) or objects[name][1][1] != name:
            raise BadObjects(name)


def _is_stale(unit, faces, told, registers):
    """Whether an object, if there is one, is not that of a unit as it is now."""
    used = tuple([(other, faces[other]) for other in sorted(set(unit[2]))])
    return told is None or told[1:4] != (unit, registers, used)
