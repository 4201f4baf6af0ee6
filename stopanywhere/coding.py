"""The bits of numbers, names, places and instructions, written and read."""

from stopanywhere.shapes import is_place, place_number
from stopanywhere.values import is_number, is_number_between, is_tuple_of
from stopanywhere.words import is_name

# Of each instruction what stands behind its word, in the order of their numbers: p a register, c both places of a copy,
# n a number, x the name of a variant or a kind, k the number of a part, P registers, l a leap.
INSTRUCTIONS = {
    "const": "pn", "copy": "c", "plus": "ppp", "minus": "ppp", "times": "ppp", "over": "ppp", "rest": "ppp",
    "less": "ppp", "atmost": "ppp", "same": "ppp", "not": "pp", "make": "xpP", "tag": "pp", "part": "xkpp",
    "long": "xpp", "new": "xppp", "at": "xppp", "put": "xppp", "show": "p", "call": "l", "jump": "l", "branch": "pl",
    "unless": "pl", "try": "ll", "return": "", "fail": "p",
}
WORDS = (
    "const", "copy", "plus", "minus", "times", "over", "rest", "less", "atmost", "same", "not", "make", "tag", "part",
    "long", "new", "at", "put", "show", "call", "jump", "branch", "unless", "try", "return", "fail",
)
MOST_PARTS = 3
LETTERS = "abcdefghijklmnopqrstuvwxyz"
LEAPS = {"short": 8, "long": 32}


def is_bit_string(thing):
    """Whether any value is a string of the characters 0 and 1."""
    return isinstance(thing, str) and thing.count("0") + thing.count("1") == len(thing)


def bits_of_count(number):
    written = f"{number + 1:b}"
    return "0" * (len(written) - 1) + written


def bits_of_number(number):
    return bits_of_count(2 * number if number >= 0 else -2 * number - 1)


def digits(number, many):
    """A number from 0 on in so many binary digits."""
    return f"{number:b}".zfill(many)


def count_at(bits, at):
    """The count whose bits begin at an index, and the index behind; None if they are cut off."""
    first = bits.find("1", at)
    if first < 0:
        return None
    behind = first + (first - at) + 1
    return (int(bits[first:behind], 2) - 1, behind) if behind <= len(bits) else None


def number_at(bits, at):
    told = count_at(bits, at)
    if told is None:
        return None
    count, behind = told
    return (0 - (count + 1) // 2 if count & 1 else count // 2), behind


def has_instruction_form(registers, thing):
    """Whether any value is an instruction for so many registers."""
    if not isinstance(thing, tuple) or thing == () or not isinstance(thing[0], str) or thing[0] not in INSTRUCTIONS:
        return False
    if thing[0] == "copy":
        return len(thing) == 3 and _are_copied(registers, thing[1:])
    letters = INSTRUCTIONS[thing[0]]
    if len(thing) != len(letters) + 1:
        return False
    return all([_has_part_form(registers, part, letter) for part, letter in zip(thing[1:], letters)])


def _is_register(registers, thing):
    return is_place(thing) and thing[0] == "r" and place_number(thing) < registers


def _are_copied(registers, places):
    """Whether these are registers, of which one may be a slot."""
    is_slot = [is_place(place) and place[0] == "s" for place in places]
    if not all([slot or _is_register(registers, place) for slot, place in zip(is_slot, places)]):
        return False
    return is_slot != [True, True]


def _has_part_form(registers, part, letter):
    if letter == "p":
        return _is_register(registers, part)
    if letter == "n":
        return is_number(part)
    if letter == "x":
        return is_name(part)
    if letter == "k":
        return is_number_between(part, 0, MOST_PARTS - 1)
    if letter == "P":
        if not isinstance(part, tuple) or len(part) > MOST_PARTS:
            return False
        return all([_is_register(registers, place) for place in part])
    return _is_leap(part)


def _is_leap(thing):
    if not is_tuple_of(thing, 2) or not isinstance(thing[0], str) or thing[0] not in LEAPS:
        return False
    half = _half_of(thing[0])
    return is_number_between(thing[1], 0 - half, half - 1)


def _half_of(word):
    """How many distances from 0 on a leap of a sort can tell."""
    return 1 << (LEAPS[word] - 1)


def bits_of_instruction(told):
    word = told[0]
    found = [digits(WORDS.index(word), 5)]
    if word == "copy":
        found.extend([_copied_bits(place) for place in told[1:]])
    else:
        found.extend([_part_bits(part, letter) for part, letter in zip(told[1:], INSTRUCTIONS[word])])
    return "".join(found)


def _copied_bits(place):
    return "1" + bits_of_count(place_number(place)) if place[0] == "s" else "0" + _register_bits(place)


def _register_bits(place):
    return digits(place_number(place), 4)


def _part_bits(part, letter):
    if letter == "p":
        return _register_bits(part)
    if letter == "n":
        return bits_of_number(part)
    if letter == "x":
        return "".join([digits(LETTERS.index(sign) + 1, 5) for sign in part]) + "00000"
    if letter == "k":
        return digits(part, 2)
    if letter == "P":
        return digits(len(part), 2) + "".join([_register_bits(place) for place in part])
    word, distance = part
    many = LEAPS[word]
    return ("0" if word == "short" else "1") + digits(distance if distance >= 0 else distance + (1 << many), many)


def read_instruction(registers, bits, at):
    """The instruction that begins at an index, and the index behind it; None if there is none."""
    told = _digits_at(bits, at, 5)
    if told is None or told[0] >= len(WORDS):
        return None
    number, behind = told
    word = WORDS[number]
    found = [word]
    letters = "cc" if word == "copy" else INSTRUCTIONS[word]
    for letter in letters:
        reader = READERS[letter]
        part = reader(bits, behind)
        if part is None:
            return None
        found.append(part[0])
        behind = part[1]
    whole = tuple(found)
    return (whole, behind) if has_instruction_form(registers, whole) else None


def _digits_at(bits, at, many):
    """The number in so many digits at an index, and the index behind; None if they are cut off."""
    return (int(bits[at:at + many], 2), at + many) if at + many <= len(bits) else None


def _register_at(bits, at):
    told = _digits_at(bits, at, 4)
    return None if told is None else (f"r{told[0]}", told[1])


def _copied_at(bits, at):
    if bits[at:at + 1] != "1":
        return _register_at(bits, at + 1)
    told = count_at(bits, at + 1)
    return None if told is None else (f"s{told[0]}", told[1])


def _name_at(bits, at):
    name = ""
    told = _digits_at(bits, at, 5)
    while told is not None and told[0] != 0:
        if told[0] > len(LETTERS):
            return None
        name += LETTERS[told[0] - 1]
        told = _digits_at(bits, told[1], 5)
    return None if told is None else (name, told[1])


def _part_number_at(bits, at):
    return _digits_at(bits, at, 2)


def _registers_at(bits, at):
    told = _digits_at(bits, at, 2)
    if told is None:
        return None
    many, behind = told
    places = [_register_at(bits, behind + 4 * index) for index in range(many)]
    if None in places:
        return None
    return tuple([place for place, _ in places]), behind + 4 * many


def _leap_at(bits, at):
    word = "long" if bits[at:at + 1] == "1" else "short"
    told = _digits_at(bits, at + 1, LEAPS[word])
    if told is None:
        return None
    distance, behind = told
    half = _half_of(word)
    return (word, distance - 2 * half if distance >= half else distance), behind


READERS = {
    "p": _register_at, "c": _copied_at, "n": number_at, "x": _name_at, "k": _part_number_at, "P": _registers_at,
    "l": _leap_at,
}
