"""Pictures of words by a heap."""


class WordMeeting:
    """What tells pictures of words, and numbers the rows by their first meeting.

    A word is a number, or ("make", variant, words) for a box that need not be there.
    """

    def __init__(self, scope, heap):
        self._scope = scope
        self._heap = heap
        self._numbers = {}
        self._met = []

    def picture(self, kind, word):
        if kind == "number":
            return word
        if word == 0:
            return None
        if isinstance(word, tuple):
            _, shape, words = word
        else:
            shape, words = self._heap[word]
        if shape == kind:
            return "row", self._number_of(word)
        return shape, self._pictures(self._scope.fields(shape), words)

    def _pictures(self, kinds, words):
        return tuple([self.picture(kind, word) for kind, word in zip(kinds, words)])

    def _number_of(self, address):
        if address not in self._numbers:
            self._numbers[address] = len(self._met)
            self._met.append(address)
        return self._numbers[address]

    def rows_met(self):
        """The tuple of the rows that are met, also those that are met in going through it."""
        found = []
        while len(found) < len(self._met):
            kind, words = self._heap[self._met[len(found)]]
            item = self._scope.item(kind)
            found.append((kind, self._pictures([item for _ in words], words)))
        return tuple(found)
