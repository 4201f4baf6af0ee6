"""Moves at once: which places take from which, rings of them, and what opens a ring."""

from stopanywhere.wants import in_place_order


class Transfer:
    """Pairs of targets and sources that are no idle ones.

    targets tells by sources the lists of their targets, sources by targets their sources.
    """

    def __init__(self, pairs):
        self.sources = {target: source for target, source in pairs if target != source}
        self.targets = {}
        for target, source in self.sources.items():
            self.targets.setdefault(source, []).append(target)
        self.rings = self._all_rings()
        self.successors = {}
        for ring in self.rings:
            for place, target in zip(ring, [*ring[1:], ring[0]]):
                self.successors[place] = target

    def _all_rings(self):
        """The rings, each from its least place on, in the order of these."""
        found = []
        met = {}
        for place in in_place_order(list(self.targets)):
            ring = self._ring_from(place)
            if ring != () and place not in met:
                found.append(ring)
                for other in ring:
                    met[other] = True
        return found

    def _ring_from(self, first):
        """The ring of a place, each one's target behind it, () if it is in none."""
        found = [first]
        seen = {first: True}
        place = self.sources.get(first)
        while place is not None and place not in seen:
            seen[place] = True
            found.append(place)
            place = self.sources.get(place)
        return (first, *list(reversed(found[1:]))) if place == first else ()

    def outside_targets(self, place):
        """The targets of a place, but for the one behind it in its ring."""
        return [target for target in self.targets.get(place, []) if target != self.successors.get(place)]

    def has_slots_alone(self, place):
        """Whether a source is a slot, and all its targets are."""
        return is_slot(place) and all([is_slot(target) for target in self.targets[place]])

    def opener(self, ring):
        """The first place of a ring that opens it by itself, None if there is none."""
        for place in ring:
            if self.has_slots_alone(place) or self.keeper(place) is not None:
                return place
        return None

    def keeper(self, place):
        """A target outside of a place's ring from which the target in it can take what the place held."""
        outside = self.outside_targets(place)
        for target in outside:
            if not is_slot(target):
                return target
        if outside and not is_slot(place) and not is_slot(self.successors[place]):
            return outside[0]
        return None


def is_slot(place):
    return place[0] == "s"
