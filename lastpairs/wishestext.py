"""The text of wishes, taken in mark by mark."""

from lastpairs.kinds import is_name
from lastpairs.wishes import MOST_PERSONS, Wishes


class WishesText:
    """What the marks so far tell. It changes."""

    def __init__(self):
        # The lists of all whose lines have ended, and of all named so far who has named them.
        self._lists = {}
        self._named_by = {}
        self._forget_line()

    def take(self, mark):
        """Takes a mark, or returns False if no text goes on with it."""
        if mark == "\n":
            return self._end_line()
        if self._head is None:
            return self._begin_line(mark)
        if not self._has_colon:
            self._has_colon = mark == ":"
            return self._has_colon
        return self._add_name(mark)

    def _forget_line(self):
        self._head = None
        self._has_colon = False
        self._some = []

    def _begin_line(self, mark):
        if mark in self._lists or not self._may_name(mark):
            return False
        self._named_by.setdefault(mark, [])
        self._head = mark
        return True

    def _may_name(self, mark):
        return is_name(mark) and (mark in self._named_by or len(self._named_by) < MOST_PERSONS)

    def _add_name(self, mark):
        if mark == self._head or mark in self._some or not self._may_name(mark):
            return False
        if mark in self._lists and self._head not in self._lists[mark]:
            return False
        self._named_by.setdefault(mark, []).append(self._head)
        self._some.append(mark)
        return True

    def _end_line(self):
        if self._head is not None:
            if not self._has_colon or self._lacking():
                return False
            self._lists[self._head] = self._some
            self._forget_line()
        return True

    def _lacking(self):
        """Those who have named the present line's person and are not yet on its list."""
        return [name for name in self._named_by[self._head] if name not in self._some]

    def is_whole(self):
        """Whether the marks so far are a text."""
        if self._head is not None and (not self._has_colon or self._lacking()):
            return False
        lines = len(self._lists) + (0 if self._head is None else 1)
        return lines > 0 and lines == len(self._named_by)

    def rest(self):
        """What makes the marks so far a text."""
        rows = [self._rest_of_line()]
        for name in self._named_by:
            if name not in self._lists and name != self._head:
                rows.append(" ".join([name + ":"] + self._named_by[name]))
        if not self._named_by:
            rows.append("a:")
        # No newline is wanted behind a line that has nothing yet.
        return "\n".join(rows[1:] if self._head is None else rows)

    def _rest_of_line(self):
        if self._head is None:
            return ""
        return "".join(([] if self._has_colon else [":"]) + [" " + name for name in self._lacking()])

    def told(self):
        """The wishes that the marks tell, which are a text."""
        self._end_line()
        names = sorted(self._lists)
        numbers = {name: number for number, name in enumerate(names)}
        return Wishes(tuple(names), tuple([tuple([numbers[other] for other in self._lists[name]]) for name in names]))
