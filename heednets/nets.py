"""Nets, their cells and states, what cells hear and want, moves and rests."""
from heednets.errors import InvalidCell, InvalidNet, InvalidNumber, InvalidState
from heednets.ratios import are_fractions, is_whole, sum_of
from heednets.states import as_number, as_state, as_states, is_state_of
from heednets.wants import movers_in, next_numbers

MOST_CELLS = 8


def is_net(value):
    """Whether a value, whatever it is, is a net."""
    if not isinstance(value, tuple) or len(value) != 2:
        return False
    weights, marks = value
    if not isinstance(weights, tuple) or not 1 <= len(weights) <= MOST_CELLS:
        return False
    many = len(weights)
    if not all(are_fractions(row, many) for row in weights):
        return False
    if not all(weights[cell][cell] == (0, 1) for cell in range(many)):
        return False
    return are_fractions(marks, many)


def is_cell_of(many, value):
    """Whether a value is one of so many cells."""
    return is_whole(value) and 0 <= value < many


def check_net(net):
    if not is_net(net):
        raise InvalidNet(net)


def check_state(net, state):
    if not is_state_of(len(net[1]), state):
        raise InvalidState(state)


def check_rest(net, state):
    check_state(net, state)
    number = as_number(state)
    if next_numbers(net)[number] != number:
        raise InvalidState(state)


def check_cell_of(many, cell):
    if not is_cell_of(many, cell):
        raise InvalidCell(cell)


def check_cell(net, cell):
    check_cell_of(len(net[1]), cell)


def is_state(net, value):
    """Whether a value, whatever it is, is a state of the net."""
    check_net(net)
    return is_state_of(len(net[1]), value)


def number_of(net, state):
    """The number of a state."""
    check_net(net)
    check_state(net, state)
    return as_number(state)


def state_of(net, number):
    """The state with a number."""
    check_net(net)
    many = len(net[1])
    if not is_whole(number) or not 0 <= number < 1 << many:
        raise InvalidNumber(number)
    return as_state(number, many)


def heard(net, cell, state):
    """What a cell hears in a state, a fraction."""
    check_net(net)
    check_cell(net, cell)
    check_state(net, state)
    return sum_of([heed for heed, on in zip(net[0][cell], state) if on])


def wanted(net, state):
    """The state in which each cell is what it wants to be in this one."""
    check_net(net)
    check_state(net, state)
    return as_state(next_numbers(net)[as_number(state)], len(state))


def movers(net, state):
    """The cells that want to be what they are not, ascending."""
    check_net(net)
    check_state(net, state)
    return tuple(movers_in(next_numbers(net), as_number(state)))


def moved(net, state, cell):
    """The state behind the move of a cell, which must be a mover."""
    check_net(net)
    check_state(net, state)
    check_cell(net, cell)
    number = as_number(state)
    if cell not in movers_in(next_numbers(net), number):
        raise InvalidCell(cell)
    return as_state(number ^ (1 << cell), len(state))


def is_rest(net, state):
    """Whether a state has no mover."""
    check_net(net)
    check_state(net, state)
    number = as_number(state)
    return next_numbers(net)[number] == number


def rests(net):
    """All states without a mover, ascending by their numbers."""
    check_net(net)
    found = [number for number, wish in enumerate(next_numbers(net)) if wish == number]
    return as_states(found, len(net[1]))
