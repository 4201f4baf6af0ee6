"""Objects and bundles by their form."""

from stopanywhere.blocks import copy_of
from stopanywhere.errors import BadKinds
from stopanywhere.faceforms import are_faces_of, has_face_form
from stopanywhere.forms import Scope, is_named, is_placed, is_startable, keeps_placed_rules, scope_of_startable
from stopanywhere.parts import declared_names, kinds_within
from stopanywhere.shapes import is_code
from stopanywhere.trees import is_declaration, is_unit
from stopanywhere.values import first_again, is_number_between, is_tuple_of
from stopanywhere.words import is_name


def is_number_of_registers(thing):
    return is_number_between(thing, 6, 9)


def has_object_form(thing):
    """Whether any value is an object by its form."""
    if not is_tuple_of(thing, 6) or thing[0] != "object" or not is_unit(thing[1]):
        return False
    _, unit, registers, used, face, codes = thing
    if not is_number_of_registers(registers) or not _are_used(used, unit):
        return False
    if not has_face_form(face) or face[1:3] != (unit[1], unit[3]):
        return False
    if not isinstance(codes, tuple) or len(codes) != len(unit[4]):
        return False
    scope = _scope_of_faces([face] + [told for _, told in used])
    if scope is None:
        return False
    for pair, function in zip(codes, unit[4]):
        if not is_tuple_of(pair, 2) or not _is_right_pair(pair, function[1], scope, registers):
            return False
    return True


def _are_used(thing, unit):
    """Whether any value is the tuple, ascending by name, of the names and faces of what a unit uses."""
    if not isinstance(thing, tuple) or not all([is_tuple_of(pair, 2) and is_name(pair[0]) for pair in thing]):
        return False
    names = [name for name, _ in thing]
    return names == sorted(set(unit[2])) and are_faces_of(unit[2], {name: face for name, face in thing})


def _scope_of_faces(faces):
    """The scope of what faces tell, None if two kinds have one name."""
    kinds = [kind for face in faces for kind in face[2]]
    functions = {}
    for face in faces:
        for name, taken, result in face[3]:
            functions[name] = (taken, result)
    try:
        return Scope(kinds, functions)
    except BadKinds:
        return None


def _is_right_pair(pair, name, scope, registers):
    """Whether a pair is named and placed code of a function."""
    if not is_code(pair[0]) or not is_code(pair[1]) or pair[0][0] != name or pair[1][0] != name:
        return False
    return is_named(pair[0], scope) and is_placed(pair[1], scope, registers)


def copied_object(thing):
    """An object that shares no dict with this one."""
    codes = [(copy_of(named), copy_of(placed)) for named, placed in thing[5]]
    return (*thing[:5], tuple(codes))


def has_bundle_form(thing):
    """Whether any value is a bundle."""
    if not is_tuple_of(thing, 4) or thing[0] != "bundle" or not is_number_of_registers(thing[1]):
        return False
    _, registers, codes, kinds = thing
    if not isinstance(codes, tuple) or not isinstance(kinds, tuple) or not _are_whole_kinds(kinds):
        return False
    if not all([is_startable(code) for code in codes]) or first_again([code[0] for code in codes]) is not None:
        return False
    known = ["number"] + [kind[1] for kind in kinds]
    if not all([_has_known_kinds(code, known) for code in codes]):
        return False
    scope = scope_of_startable(kinds, codes)
    return all([keeps_placed_rules(code, scope, registers) for code in codes])


def _are_whole_kinds(kinds):
    """Whether these are declarations, ascending by name, with different names, that name no others."""
    if not all([is_declaration(kind) for kind in kinds]):
        return False
    names = [kind[1] for kind in kinds]
    if names != sorted(names) or first_again([name for kind in kinds for name in declared_names(kind)]) is not None:
        return False
    known = ["number", "truth"] + names
    return all([kind in known for told in kinds for kind in kinds_within(told)])


def _has_known_kinds(code, known):
    """Whether the kinds that a code takes and gives are known."""
    _, result, blocks = code
    return all([kind in known for kind in [result] + [told for _, told in blocks[0][0]]])


def copied_bundle(bundle):
    """A bundle that shares no dict with this one."""
    return (*bundle[:2], tuple([copy_of(code) for code in bundle[2]]), bundle[3])
