"""Faces by their form, and what names they tell."""

from stopanywhere.parts import declared_names
from stopanywhere.trees import is_declaration, is_kind
from stopanywhere.values import first_again, is_tuple_of
from stopanywhere.words import is_name


def has_face_form(thing):
    """Whether any value is a face by its form alone."""
    if not is_tuple_of(thing, 4) or thing[0] != "face" or not is_name(thing[1]):
        return False
    kinds, functions = thing[2], thing[3]
    if not isinstance(kinds, tuple) or len(kinds) > 8 or not isinstance(functions, tuple) or len(functions) > 8:
        return False
    if not all([is_declaration(kind) for kind in kinds]) or not all([_is_told(function) for function in functions]):
        return False
    called = [function[0] for function in functions]
    return called == sorted(called) and first_again(names_of_face(thing)) is None


def _is_told(thing):
    """Whether any value tells a function: its name, the kinds of its parameters, the kind of its result."""
    if not is_tuple_of(thing, 3) or not is_name(thing[0]) or not is_kind(thing[2]):
        return False
    return isinstance(thing[1], tuple) and len(thing[1]) <= 3 and all([is_kind(kind) for kind in thing[1]])


def names_of_face(face):
    """The names of all kinds, variants and functions that a face tells."""
    _, _, kinds, functions = face
    return [name for kind in kinds for name in declared_names(kind)] + [function[0] for function in functions]


def are_faces_of(used, faces):
    """Whether any value is a dict from just the used names to their faces, of which no two tell one name."""
    if not isinstance(faces, dict) or not all([is_name(name) for name in faces]):
        return False
    if sorted(faces) != sorted(set(used)):
        return False
    if not all([has_face_form(faces[name]) and faces[name][1] == name for name in faces]):
        return False
    return first_again([told for name in faces for told in names_of_face(faces[name])]) is None
