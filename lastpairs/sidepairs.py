"""The lasting pairing that is best for one of two sides."""

from lastpairs.askpapers import ends_left
from lastpairs.plain import pair_of


def side_pairing(wishes, sides, side):
    """The pairing of all persons of one side with their first ones behind all asking."""
    pairs = []
    for person, ends in enumerate(ends_left(wishes)):
        if sides[person] == side and ends is not None:
            pairs.append(pair_of(person, ends[0]))
    return tuple(sorted(pairs))
