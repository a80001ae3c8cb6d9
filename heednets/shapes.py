"""Shapes of boards: pairs of how many rows they have, and how many columns."""
from heednets.errors import InvalidNumber
from heednets.nets import MOST_CELLS
from heednets.ratios import is_whole


def is_side(value):
    return is_whole(value) and 1 <= value <= MOST_CELLS


def is_shape(value):
    """Whether a value is a pair of sides, each of which alone a board can have."""
    return isinstance(value, tuple) and len(value) == 2 and all(is_side(side) for side in value)


def cells_of(shape):
    return shape[0] * shape[1]


def is_shape_of(many, value):
    """Whether a value is the shape of a board of so many cells."""
    return is_shape(value) and cells_of(value) == many


def check_shape(shape):
    if not is_shape(shape) or cells_of(shape) > MOST_CELLS:
        raise InvalidNumber(shape)
