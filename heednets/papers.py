"""Papers: what several kinds of them have in common."""
from heednets.ratios import is_whole
from heednets.states import as_number, is_state_of
from heednets.wants import moves_from


def is_empty(paper):
    return isinstance(paper, tuple) and not paper


def is_tuple_of(value, many):
    return isinstance(value, tuple) and len(value) == many


def are_tuples_of(value, wide):
    """Whether a value is a tuple of tuples, each of so many elements."""
    return isinstance(value, tuple) and all(is_tuple_of(row, wide) for row in value)


def ascending_numbers(many, value):
    """The numbers of an ascending tuple of states of so many cells; None for any other value."""
    if not isinstance(value, tuple) or not all(is_state_of(many, state) for state in value):
        return None
    numbers = [as_number(state) for state in value]
    return numbers if all([ahead < behind for ahead, behind in zip(numbers, numbers[1:])]) else None


def closed_numbers(nexts, many, value):
    """The numbers of a tuple of states which no move leads out of; None for any other value."""
    numbers = ascending_numbers(many, value)
    if numbers is None:
        return None
    held = {number: True for number in numbers}
    if not all([behind in held for number in numbers for behind in moves_from(nexts, number)]):
        return None
    return numbers


def falling_heights(nexts, many, value, wide):
    """The heights, by their numbers, of the states of a closed tuple; None where the paper is none.

    It is a tuple of rows, WIDE elements each, of which the first two are a state and its height. Each move leads to a
    lesser one.
    """
    if not are_tuples_of(value, wide) or not all(is_whole(row[1]) for row in value):
        return None
    numbers = closed_numbers(nexts, many, tuple([row[0] for row in value]))
    if numbers is None:
        return None
    heights = {number: row[1] for number, row in zip(numbers, value)}
    for number in numbers:
        if not all([heights[behind] < heights[number] for behind in moves_from(nexts, number)]):
            return None
    return heights


def rests_among(nexts, numbers):
    return [number for number in numbers if nexts[number] == number]
