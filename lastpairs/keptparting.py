"""A lasting parting kept up while persons come and go."""

from lastpairs.among import odd_parts
from lastpairs.errors import Refused
from lastpairs.kinds import is_below
from lastpairs.leavings import parting_without
from lastpairs.mended import change_between, parting_with, with_one


class KeptParting:
    """A parting that lasts among those who are here now."""

    def __init__(self, wishes):
        self.wishes = wishes
        self.here = ()
        self._parting = tuple(range(len(wishes.names)))

    def comes(self, person):
        """Lets a person come, and tells which odd part there is more or less."""
        self._check_person(person)
        if person in self.here:
            raise Refused("here")
        parting = parting_with(self.wishes, self.here, self._parting, person)
        return self._changed(with_one(self.here, person), parting)

    def goes(self, person):
        """Lets a person go, and tells which odd part there is more or less."""
        self._check_person(person)
        if person not in self.here:
            raise Refused("away")
        parting = parting_without(self.wishes, self.here, self._parting, person)
        return self._changed(tuple([other for other in self.here if other != person]), parting)

    def _check_person(self, person):
        if not is_below(person, len(self.wishes.names)):
            raise Refused("person")

    def _changed(self, here, parting):
        parts = self.present_parts()
        self.here = here
        self._parting = parting
        return change_between(parts, self.present_parts())

    def present_parting(self):
        """The parting now."""
        return self._parting

    def present_parts(self):
        """All odd parts now."""
        return odd_parts(self.here, self._parting)
