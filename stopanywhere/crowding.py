"""Which places are crowded out of registers, where code has several blocks."""


class Crowd:
    """The places that are alive at the spots of a code, but for those that lie in slots."""

    def __init__(self, alive, room, slotted):
        """alive tells by blocks, for each spot, the places that are alive there."""
        self._room = room
        self._beside = {}
        self._spots = {}
        for number in sorted(alive):
            for at, places in enumerate(alive[number]):
                self._add_spot((number, at), [place for place in places if place not in slotted])

    def _add_spot(self, spot, places):
        self._beside[spot] = {place: True for place in places}
        for place in places:
            self._spots.setdefault(place, []).append(spot)

    def put_out(self, place):
        """Puts a place into a slot."""
        for spot in self._spots[place]:
            del self._beside[spot][place]

    def crowded_out(self, costs):
        """Puts places out until there is room at each spot; the list of these, none of which could come back.

        costs tells what it costs to put a place out, of those for which that is not 0.
        """
        out = []
        for spot in list(self._beside):
            while len(self._beside[spot]) > self._room:
                told = [(costs.get(place, 0), 0 - len(self._spots[place]), place) for place in self._beside[spot]]
                cheapest = min(told)
                out.append(cheapest)
                self.put_out(cheapest[2])
        found = []
        for _, _, place in sorted(out, reverse=True):
            if not self._takes_back(place):
                found.append(place)
        return found

    def _takes_back(self, place):
        """Takes a place back if there is room for it wherever it is alive; whether there is."""
        if self.full_spot(place) is not None:
            return False
        for spot in self._spots[place]:
            self._beside[spot][place] = True
        return True

    def full_spot(self, place):
        """The first spot at which a place that is put out is alive beside as many as there is room for."""
        for spot in self._spots[place]:
            if len(self._beside[spot]) == self._room:
                return spot
        return None
