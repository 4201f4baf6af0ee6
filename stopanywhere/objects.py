"""Objects: units compiled alone; bundles: what is linked of them."""

from stopanywhere.blocks import calls_in_code, copy_of
from stopanywhere.errors import (
    BadBundle, BadFaces, BadObject, BadOrder, BadRegisters, BadUnit, Faulty, KindClash, Missing, NoFunction, OtherFace,
    OtherRegisters, TwoNames, TwoUnits,
)
from stopanywhere.faceforms import names_of_face
from stopanywhere.faces import face_of
from stopanywhere.graphs import order_from
from stopanywhere.lowering import named_codes, scope_of
from stopanywhere.objectforms import has_bundle_form, has_object_form, is_number_of_registers
from stopanywhere.passes import lean
from stopanywhere.placing import placed_code
from stopanywhere.sights import check_unit
from stopanywhere.values import first_again, is_list


def object_of(unit, faces, registers):
    """The object of a unit, found by the faces of those that it uses."""
    check_unit(unit, faces)
    if not is_number_of_registers(registers):
        raise BadRegisters("no number from 6 to 9")
    face = face_of(unit, faces)
    named = named_codes(unit, faces)
    better, _ = lean(scope_of(unit, faces), named)
    codes = []
    for function in unit[4]:
        placed, _ = placed_code(better[function[1]], registers)
        codes.append((named[function[1]], placed))
    return "object", unit, registers, tuple([(name, faces[name]) for name in sorted(faces)]), face, tuple(codes)


def is_object(thing):
    """Whether any value is an object as it is made of what stands in it."""
    if not has_object_form(thing):
        return False
    _, unit, registers, used, _, _ = thing
    try:
        return object_of(unit, {name: face for name, face in used}, registers) == thing
    except (BadUnit, BadFaces, Faulty, KindClash):
        return False


def linked(objects, order):
    """The bundle of objects, the units in this order."""
    _check_objects(objects)
    units = {told[1][1]: told for told in objects}
    if not is_list(order) or not all([isinstance(name, str) for name in order]) or sorted(order) != sorted(units):
        raise BadOrder("no list of just the units' names")
    if not all([told[2] == objects[0][2] for told in objects]):
        raise OtherRegisters("unlike numbers of registers")
    _check_uses(objects, units)
    _check_names(objects)
    codes = [copy_of(placed) for name in order for _, placed in units[name][5]]
    kinds = sorted([kind for told in objects for kind in told[1][3]], key=lambda kind: kind[1])
    return "bundle", objects[0][2], tuple(codes), tuple(kinds)


def _check_objects(objects):
    if not is_list(objects) or len(objects) == 0:
        raise BadObject(None)
    for at, told in enumerate(objects):
        if not has_object_form(told):
            raise BadObject(at)
    names = [told[1][1] for told in objects]
    again = first_again(names)
    if again is not None:
        raise TwoUnits(names[again])


def _check_uses(objects, units):
    for told in objects:
        for name in told[1][2]:
            if name not in units:
                raise Missing(name)
    for told in objects:
        faces = {name: face for name, face in told[3]}
        for name in told[1][2]:
            if units[name][4] != faces[name]:
                raise OtherFace(name)


def _check_names(objects):
    """Refuses a name of a function, a kind or a variant that two objects have."""
    told = sorted([name for one in objects for name in names_of_face(one[4])])
    again = first_again(told)
    if again is not None:
        raise TwoNames(told[again])


def is_bundle(thing):
    """Whether any value is a bundle."""
    return has_bundle_form(thing)


def calls_of(bundle):
    """The ascending dict from the functions to the ascending tuples of those that they call."""
    _check_bundle(bundle)
    calls = {code[0]: tuple(sorted(set(calls_in_code(code)))) for code in bundle[2]}
    return {name: calls[name] for name in sorted(calls)}


def kept(bundle, functions):
    """The bundle with just the functions that calls come to from these."""
    calls = calls_of(bundle)
    if not is_list(functions):
        raise NoFunction(None)
    for name in functions:
        if not isinstance(name, str) or name not in calls:
            raise NoFunction(name)
    met = {other: True for name in functions for other in order_from(calls, name)}
    codes = [copy_of(code) for code in bundle[2] if code[0] in met]
    return "bundle", bundle[1], tuple(codes), bundle[3]


def _check_bundle(bundle):
    if not has_bundle_form(bundle):
        raise BadBundle("no bundle")
