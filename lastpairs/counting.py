"""Counts complete lots, with no more work than the ties of the choices to one another make."""

from lastpairs.errors import Refused
from lastpairs.turntable import places_in

MOST_CHOICES = 30


class Counting:
    """Counts the complete lots of a table of turns, and keeps what it has counted."""

    def __init__(self, table):
        self._opposites = table.opposites
        self._free = sum([1 << place for choice in table.choices for place in choice])
        # For each free turn those that are chosen or barred if it is chosen.
        self._decided = {place: self._with_opposites(table.needs[place]) for place in places_in(self._free)}
        self._known = {0: 1}

    def _with_opposites(self, chosen):
        free = chosen & self._free
        both = free
        for place in places_in(free):
            both |= 1 << self._opposites[place]
        return both

    def lots_with(self, chosen):
        """How many complete lots have all turns of a closed lot without conflict."""
        return self._many(self._free & ~self._with_opposites(chosen))

    def _many(self, left):
        """In how many ways all choices can be made whose turns are left."""
        # Whatever was chosen before, it says nothing of these: so only they matter.
        if left not in self._known:
            part = self._tied_part(left)
            if part == left:
                self._known[left] = self._many_tied(left)
            else:
                self._known[left] = self._many(part) * self._many(left & ~part)
        return self._known[left]

    def _many_tied(self, left):
        # The choice that decides most others leaves least to count.
        place = max(places_in(left), key=lambda at: len(places_in(self._ties(at) & left)))
        other = self._opposites[place]
        return self._many(left & ~self._decided[place]) + self._many(left & ~self._decided[other])

    def _ties(self, place):
        return self._decided[place] | self._decided[self._opposites[place]]

    def _tied_part(self, left):
        """All that is tied to the first turn left, over others, too."""
        part = 0
        more = left & -left
        while more != part:
            new = more & ~part
            part = more
            for place in places_in(new):
                more |= self._ties(place) & left
        return part


def counting_of(table):
    """What counts the complete lots of a table of turns with few enough choices."""
    if len(table.choices) > MOST_CHOICES:
        raise Refused("size")
    return Counting(table)
