"""Making: the codes of a whole program at each level."""

from stopanywhere.again import build
from stopanywhere.images import image, read_image
from stopanywhere.lowering import named_codes, scope_of
from stopanywhere.objects import linked
from stopanywhere.passes import lean
from stopanywhere.runner import Codes


def codes_at(program, level, registers):
    """The codes of a program, named, lean, placed for so many registers, or as their image tells them."""
    if level in ("placed", "image"):
        objects, _ = build(list(program.units), {}, registers)
        bundle = linked(list(objects.values()), list(objects))
        if level == "image":
            bundle, _, _ = read_image(image(bundle))
        return Codes(list(bundle[3]), list(bundle[2]))
    kinds = []
    codes = []
    for unit in program.units:
        faces = {name: program.faces[name] for name in unit[2]}
        told = named_codes(unit, faces)
        if level == "lean":
            told, _ = lean(scope_of(unit, faces), told)
        kinds.extend(unit[3])
        codes.extend(list(told.values()))
    return Codes(kinds, codes)
