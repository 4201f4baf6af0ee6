"""Faces: what a unit tells those that use it."""

from stopanywhere.faceforms import has_face_form
from stopanywhere.kinds import kinds_of
from stopanywhere.names import order_of
from stopanywhere.values import ascending


def face_of(unit, faces):
    """The face of a unit, found by those of the units that it uses."""
    told = kinds_of(unit, faces)
    functions = [(name, told[name][0], told[name][1]) for name in told]
    return "face", unit[1], unit[3], tuple(functions)


def is_face(thing):
    """Whether any value is a face by its form alone."""
    return has_face_form(thing)


def all_faces(units):
    """The dict from the names of units to their faces, each found by those that it uses."""
    order = order_of(units)
    trees = {unit[1]: unit for unit in units}
    found = {}
    for name in order:
        used = {other: found[other] for other in trees[name][2]}
        found[name] = face_of(trees[name], used)
    return ascending(found)
