"""Pictures of worths and moments: how they are told, judged and narrowed."""

from stopanywhere.values import first_again, is_number, is_tuple_of
from stopanywhere.words import is_name


class RowBox:
    """A box of a row kind: its items can be changed, so it is the same as itself alone."""

    def __init__(self, kind, held):
        self.kind = kind
        self.held = held


class Meeting:
    """What tells pictures of worths, and numbers the rows by their first meeting.

    A worth is a number, a bool, a RowBox, or a pair of a variant and the tuple of its parts.
    """

    def __init__(self):
        self._numbers = {}
        self._met = []

    def picture(self, worth):
        if isinstance(worth, bool):
            return 1 if worth else 0
        if isinstance(worth, int):
            return worth
        if isinstance(worth, RowBox):
            return "row", self._number_of(worth)
        variant, parts = worth
        return variant, tuple([self.picture(part) for part in parts])

    def _number_of(self, row):
        if row not in self._numbers:
            self._numbers[row] = len(self._met)
            self._met.append(row)
        return self._numbers[row]

    def rows_met(self):
        """The tuple of the rows that are met, also those that are met in going through it."""
        found = []
        while len(found) < len(self._met):
            row = self._met[len(found)]
            found.append((row.kind, tuple([self.picture(worth) for worth in row.held])))
        return tuple(found)


def is_moment(thing):
    """Whether any value has the form of a moment."""
    if not is_tuple_of(thing, 3):
        return False
    frames, rows, shown = thing
    if not isinstance(frames, tuple) or not isinstance(rows, tuple) or not is_number(shown) or shown < 0:
        return False
    many = len(rows)
    return all([_is_frame(frame, many) for frame in frames]) and all([_is_row(row, many) for row in rows])


def _is_frame(thing, many):
    if not is_tuple_of(thing, 3) or not is_name(thing[0]) or not is_number(thing[1]) or thing[1] < 0:
        return False
    variables = thing[2]
    if not isinstance(variables, tuple) or not all([_is_variable(variable, many) for variable in variables]):
        return False
    names = [name for name, _ in variables]
    return names == sorted(names) and first_again(names) is None


def _is_variable(thing, many):
    return is_tuple_of(thing, 2) and is_name(thing[0]) and _is_picture(thing[1], many)


def _is_row(thing, many):
    return is_tuple_of(thing, 2) and is_name(thing[0]) and _are_pictures(thing[1], many)


def _are_pictures(thing, many):
    if not isinstance(thing, tuple):
        return False
    for picture in thing:
        if not _is_picture(picture, many):
            return False
    return True


def _is_picture(thing, many):
    """Whether any value is a picture, among so many rows."""
    if is_number(thing):
        return True
    if not is_tuple_of(thing, 2):
        return False
    if thing[0] == "row":
        return is_number(thing[1]) and 0 <= thing[1] < many
    return is_name(thing[0]) and _are_pictures(thing[1], many)


def _boxes_of(rows):
    """Boxes for the rows of a moment, that hold what these tell."""
    boxes = [RowBox(kind, []) for kind, _ in rows]
    for box, (_, pictures) in zip(boxes, rows):
        box.held = [_worth_of(picture, boxes) for picture in pictures]
    return boxes


def _worth_of(picture, boxes):
    """What has this picture, if its rows are those boxes."""
    if isinstance(picture, int):
        return picture
    word, told = picture
    if word == "row":
        return boxes[told]
    return word, tuple([_worth_of(part, boxes) for part in told])


def narrowed_to(moment, chosen):
    """A moment with just the chosen variables told, a list of names for each frame."""
    frames, rows, shown = moment
    boxes = _boxes_of(rows)
    meeting = Meeting()
    told = []
    for (function, point, variables), names in zip(frames, chosen):
        kept = [(name, meeting.picture(_worth_of(picture, boxes))) for name, picture in variables if name in names]
        told.append((function, point, tuple(kept)))
    return tuple(told), meeting.rows_met(), shown
