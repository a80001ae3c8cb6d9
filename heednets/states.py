"""States as tuples of 0 and 1, and the numbers that stand for them."""
from heednets.ratios import is_whole


def is_state_of(many, value):
    """Whether a value is a state of so many cells."""
    if not isinstance(value, tuple) or len(value) != many:
        return False
    return all(is_whole(part) and 0 <= part <= 1 for part in value)


def as_number(state):
    return sum([1 << cell for cell, on in enumerate(state) if on])


def cells_on(number):
    """The cells that are on in the state with a number, ascending."""
    return [cell for cell in range(number.bit_length()) if (number >> cell) & 1]


def as_state(number, many):
    return tuple([(number >> cell) & 1 for cell in range(many)])


def as_states(numbers, many):
    return tuple([as_state(number, many) for number in numbers])
