"""Asks what kind of value something is.

Values of any kind are passed here. Nothing is done with a value before its kind is known,
as an object may fail at whatever it is asked.
"""

MOST_LETTERS = 6


def is_number(value):
    """Whether a value is an integer from 0 on."""
    return isinstance(value, int) and not isinstance(value, bool) and value >= 0


def is_below(value, bound):
    """Whether a value is a number below a bound: so a person, of as many as the bound."""
    return is_number(value) and value < bound


def is_name(value):
    """Whether a value is a name."""
    if not isinstance(value, str) or not 1 <= len(value) <= MOST_LETTERS:
        return False
    return all(["a" <= sign <= "z" for sign in value])


def is_tuple_of(value, many):
    """Whether a value is a tuple with so many items, whatever they are."""
    return isinstance(value, tuple) and len(value) == many


def are_persons(value, many):
    """Whether a value is a tuple of persons, of so many, perhaps the same one twice."""
    return isinstance(value, tuple) and all([is_below(person, many) for person in value])


def are_unlike_persons(value, many):
    """Whether a value is a tuple of persons, of so many, none twice."""
    return are_persons(value, many) and len(set(value)) == len(value)


def is_lot_of_persons(value, many):
    """Whether a value is a lot of persons, of so many."""
    return are_persons(value, many) and all([value[at - 1] < value[at] for at in range(1, len(value))])


def are_rows_of_persons(value, many):
    """Whether a value is a tuple of tuples of persons, of so many, as a ring's pairs are."""
    return isinstance(value, tuple) and all([are_persons(row, many) for row in value])


def is_couple(value, many):
    """Whether a value is a pair of persons, of so many, the lesser one first."""
    return is_tuple_of(value, 2) and are_persons(value, many) and value[0] < value[1]


def is_same(value, told):
    """Whether a value is the same as another one, which is told by tuples, strings and numbers alone."""
    if isinstance(told, tuple):
        return is_tuple_of(value, len(told)) and all([is_same(part, other) for part, other in zip(value, told)])
    if isinstance(told, str):
        return isinstance(value, str) and value == told
    return is_number(value) and value == told
