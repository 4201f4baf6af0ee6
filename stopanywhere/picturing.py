"""Words that formulas tell, and pictures of words by a heap."""


class WordMeeting:
    """What tells pictures of words, and numbers the rows by their first meeting.

    A word is a number, or ("make", variant, words) for a box that need not be there.
    """

    def __init__(self, scope, heap):
        self._scope = scope
        self._heap = heap
        self._numbers = {}
        self._met = []

    def picture(self, kind, word):
        if kind == "number":
            return word
        if word == 0:
            return None
        if isinstance(word, tuple):
            _, shape, words = word
        else:
            shape, words = self._heap[word]
        if shape == kind:
            return "row", self._number_of(word)
        return shape, self._pictures(self._scope.fields(shape), words)

    def _pictures(self, kinds, words):
        return tuple([self.picture(kind, word) for kind, word in zip(kinds, words)])

    def _number_of(self, address):
        if address not in self._numbers:
            self._numbers[address] = len(self._met)
            self._met.append(address)
        return self._numbers[address]

    def rows_met(self):
        """The tuple of the rows that are met, also those that are met in going through it."""
        found = []
        while len(found) < len(self._met):
            kind, words = self._heap[self._met[len(found)]]
            item = self._scope.item(kind)
            found.append((kind, self._pictures([item for _ in words], words)))
        return tuple(found)


def word_of(formula, places):
    """The word that a formula tells by the words of places, None if it or a part of it is lost."""
    word = formula[0]
    if word == "is":
        return formula[1]
    if word == "of":
        _, place, sign, number = formula
        return sign * places[place] + number
    if word == "lost":
        return None
    _, variant, parts = formula
    told = [word_of(part, places) for part in parts]
    return None if None in told else ("make", variant, tuple(told))


def pictured_end(told, kind, scope, heap):
    """An end, None ahead of it, as moments tell worths; kind is that of what is returned."""
    if told is None:
        return ("cut",)
    if told[0] == "failed":
        return told
    meeting = WordMeeting(scope, heap)
    picture = meeting.picture(kind, told[1])
    return "returned", picture, meeting.rows_met()
