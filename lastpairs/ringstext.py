"""The texts of pairings and of partings, taken in mark by mark."""

from lastpairs.wishes import is_wished


class RingsText:
    """What the marks so far tell: rings of two or more persons. It changes."""

    def __init__(self, wishes, only_pairs):
        self._wishes = wishes
        self._only_pairs = only_pairs
        self._numbers = {name: number for number, name in enumerate(wishes.names)}
        self._free = {number: True for number in range(len(wishes.names))}
        self._rings = [[]]

    def take(self, mark):
        """Takes a mark, or returns False if no text goes on with it."""
        if mark == ",":
            return self._end_ring()
        person = self._numbers.get(mark, None)
        if person not in self._free or not self._may_follow(person):
            return False
        del self._free[person]
        self._rings[-1].append(person)
        return True

    def _end_ring(self):
        if not self._is_closed() or not self._further():
            return False
        self._rings.append([])
        return True

    def _is_closed(self):
        ring = self._rings[-1]
        return len(ring) > 1 and is_wished(self._wishes, ring[-1], ring[0])

    def _further(self):
        """Two persons who can still be a ring, if there are some."""
        for person in self._free:
            for other in self._wishes.lists[person]:
                if other in self._free:
                    return [person, other]
        return []

    def _may_follow(self, person):
        ring = self._rings[-1]
        if not ring:
            return bool(self._way_back(person, person))
        if not is_wished(self._wishes, ring[-1], person):
            return False
        if is_wished(self._wishes, person, ring[0]):
            return len(ring) == 1 or not self._only_pairs
        return not self._only_pairs and bool(self._way_back(person, ring[0]))

    def _way_back(self, person, first):
        """Free persons who lead from a person on to one that has the first one on its list."""
        before = {person: None}
        waiting = [person]
        while waiting:
            reached = waiting.pop()
            for other in self._wishes.lists[reached]:
                if other in self._free and other not in before:
                    before[other] = reached
                    if is_wished(self._wishes, other, first):
                        return _way_to(before, other)
                    waiting.append(other)
        return []

    def is_whole(self):
        """Whether the marks so far are a text."""
        return self._rings == [[]] or self._is_closed()

    def rest(self):
        """What makes the marks so far a text."""
        ring = self._rings[-1]
        if self.is_whole():
            return ""
        persons = self._way_back(ring[-1], ring[0]) if ring else self._further()
        return "".join([" " + self._wishes.names[person] for person in persons])

    def told(self):
        """The rings that the marks tell, which are a text."""
        return tuple([tuple(ring) for ring in self._rings if ring])


def _way_to(before, last):
    """The persons by whom the last one was reached, but the very first one."""
    way = [last]
    while before[before[way[0]]] is not None:
        way = [before[way[0]]] + way
    return way
