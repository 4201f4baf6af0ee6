"""The old side of a walk of the judge: levels of frames that go on quietly, by terms."""

from stopanywhere.blocks import frames_of, is_context, is_pure, leads_to, reads_of_row
from stopanywhere.sayings import formula_term, said_frames
from stopanywhere.shapes import MOST_FRAMES
from stopanywhere.sums import number_of, one_less

MOST_QUIET = 2000


class Level:
    """A frame of the old side: where it stands, the terms of its places, and the frames that it says."""

    def __init__(self, function, number, at, terms, said):
        self.function = function
        self.number = number
        self.at = at
        self.terms = terms
        self.said = said


def without_registers(terms):
    return {place: terms[place] for place in terms if place[0] != "r"}


def decided(book, assumed, term):
    """Whether a term is not 0, None if that is not decided; assumed tells what was assumed to be so or not."""
    number = number_of(term)
    if number is not None:
        return number != 0
    if term in assumed:
        return assumed[term]
    other = one_less(term)
    return not assumed[other] if other in assumed and book.is_truth(term) else None


def level_of_anchor(case, book, level, terms):
    """A level as an anchor tells it; terms are those of the new side."""
    function, number, at, equations = level
    told = {place: formula_term(book, equations[place], terms) for place in equations}
    rows = case.codes[function][2][number][1][:at]
    ahead = [index for index, row in enumerate(rows) if is_context(row)]
    if not ahead:
        return Level(function, number, at, told, ())
    lasting = dict(told)
    for row in rows[ahead[-1] + 1:]:
        lasting.pop(row[0], None)
        if row[1] == "call":
            lasting = without_registers(lasting)
    return Level(function, number, at, told, said_frames(book, frames_of(rows[ahead[-1]]), lasting))


class OldSide:
    """Levels, the outermost one first, what was assumed, and whether anything was gone over."""

    def __init__(self, case, book, levels, assumed):
        self._case = case
        self._book = book
        self._levels = levels
        self.assumed = assumed
        self.has_moved = False
        self._quiet = 0

    def forked(self, assumed):
        """Another one that stands where this one does, with something else assumed."""
        levels = [Level(told.function, told.number, told.at, dict(told.terms), told.said) for told in self._levels]
        found = OldSide(self._case, self._book, levels, assumed)
        found.has_moved = self.has_moved
        found._quiet = self._quiet
        return found

    def spots(self):
        """The spots of the levels, the innermost one first."""
        return [(level.function, level.number, level.at) for level in reversed(self._levels)]

    def depth(self):
        return len(self._levels)

    def all_said(self):
        """The frames that the levels say, the outermost one first."""
        return tuple([frame for level in self._levels for frame in level.said])

    def level_terms(self):
        """The terms of the levels' places, those of the innermost one first."""
        return [level.terms for level in reversed(self._levels)]

    def row(self):
        """The row at which the innermost level stands, None at an end."""
        level = self._levels[-1]
        rows = self._block(level)[1]
        return rows[level.at] if level.at < len(rows) else None

    def end(self):
        """The end at which the innermost level stands, None at a row."""
        level = self._levels[-1]
        _, rows, end = self._block(level)
        return end if level.at == len(rows) else None

    def terms_of(self, places):
        """The terms of places of the innermost level, None for those that have none."""
        return [self._levels[-1].terms.get(place) for place in places]

    def _block(self, level):
        return self._case.codes[level.function][2][level.number]

    def go_quietly(self, keeps_calls):
        """Goes over one quiet row or end; whether there is one. Where calls are kept, none is gone into."""
        if self._quiet == MOST_QUIET:
            return False
        level, row, end = self._levels[-1], self.row(), self.end()
        if row is None:
            went = self._go_over_end(level, end)
        elif row[1] == "still":
            self.pass_context(row)
            went = True
        elif is_pure(row):
            self._give(level, row)
            went = True
        else:
            went = not keeps_calls and self._go_into(level, row)
        if went:
            self._quiet += 1
            self.has_moved = True
        return went

    def stand(self, keeps_calls):
        """Goes on quietly as far as it can."""
        while self.go_quietly(keeps_calls):
            pass

    def _give(self, level, row):
        """Goes over a pure row, whose place has a term if all that it reads has one."""
        if all([place in level.terms for place in reads_of_row(row)]):
            level.terms[row[0]] = self._book.row_term(row, level.terms)
        else:
            level.terms.pop(row[0], None)
        level.at += 1

    def _go_into(self, level, row):
        """Goes into a call of a function whose code is there."""
        if row[1] != "call" or row[2] not in self._case.codes or len(self._levels) == MOST_FRAMES:
            return False
        parameters = [place for place, _ in self._case.codes[row[2]][2][0][0]]
        self._levels.append(Level(row[2], 0, 0, _known(parameters, [level.terms.get(place) for place in row[3]]), ()))
        return True

    def _go_over_end(self, level, end):
        if end[0] == "jump":
            self.lead(end[1], self.terms_of(end[2]))
            return True
        if end[0] != "branch" or end[1] not in level.terms:
            return False
        way = decided(self._book, self.assumed, level.terms[end[1]])
        if way is None:
            return False
        self.lead(end[2] if way else end[3], [])
        return True

    def lead(self, number, terms):
        """Leads the innermost level to a block, whose parameters get these terms."""
        level = self._levels[-1]
        level.number, level.at = number, 0
        _give_all(level.terms, [place for place, _ in self._block(level)[0]], terms)
        self.has_moved = True

    def go_over_try(self, way, term):
        """Leads the innermost level over its try, to the first block or the other one."""
        level = self._levels[-1]
        level.terms = without_registers(level.terms)
        self.lead(leads_to(self.end())[way], [term])

    def pass_context(self, row):
        """Goes over a context row, whose frames the level then says."""
        level = self._levels[-1]
        level.said = said_frames(self._book, frames_of(row), level.terms)
        level.at += 1
        self.has_moved = True

    def pass_acting(self, row, term):
        """Goes over an acting row, whose place, if it gives one, gets a term."""
        level = self._levels[-1]
        if row[1] == "call":
            level.terms = without_registers(level.terms)
        if row[0] is not None:
            _give_all(level.terms, [row[0]], [term])
        level.at += 1
        self.has_moved = True

    def come_back(self):
        """Goes on quietly, then over a back or over a return of an inner level; whether it could."""
        self.stand(False)
        row, end = self.row(), self.end()
        if row is not None and row[1] == "back":
            self.pass_context(row)
            return True
        if end is None or end[0] != "return" or len(self._levels) == 1:
            return False
        term = self.terms_of([end[1]])[0]
        self._levels.pop()
        self.pass_acting(self.row(), term)
        return True


def _known(places, terms):
    found = {}
    _give_all(found, places, terms)
    return found


def _give_all(known, places, terms):
    """Has places given these terms; those for which it is None have none any more."""
    for place, term in zip(places, terms):
        known.pop(place, None)
        if term is not None:
            known[place] = term
