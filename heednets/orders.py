"""One cell after the other: passes through an order, runs by it, and rows of moves."""
from heednets.errors import InvalidLot
from heednets.nets import check_net, check_state, is_cell_of
from heednets.states import as_number, as_state, as_states
from heednets.wants import movers_in, next_numbers, tail_and_ring

LONGEST_ORDER = 16
LONGEST_ROW = 400


def check_cells(net, cells, fewest, most):
    if not isinstance(cells, tuple) or not fewest <= len(cells) <= most:
        raise InvalidLot(None)
    for index, cell in enumerate(cells):
        if not is_cell_of(len(net[1]), cell):
            raise InvalidLot(index)


def check_order(net, order):
    check_cells(net, order, 1, LONGEST_ORDER)


def are_cells(net, value, fewest, most):
    """Whether a value, whatever it is, is a tuple of the net's cells, from so few to so many."""
    try:
        check_cells(net, value, fewest, most)
    except InvalidLot:
        return False
    return True


def is_order(net, value):
    return are_cells(net, value, 1, LONGEST_ORDER)


def is_short_row(net, value):
    """Whether a value, whatever it is, is a row of cells that is not too long to be looked at."""
    return are_cells(net, value, 0, LONGEST_ROW)


def number_behind_pass(nexts, number, order):
    for cell in order:
        if cell in movers_in(nexts, number):
            number = number ^ (1 << cell)
    return number


def number_behind_row(nexts, number, row):
    """The number of the state behind a row of moves; None if a cell is no mover at its time."""
    for cell in row:
        if cell not in movers_in(nexts, number):
            return None
        number = number ^ (1 << cell)
    return number


def pass_behind(net, state, order):
    """The state behind one pass through an order."""
    check_net(net)
    check_state(net, state)
    check_order(net, order)
    return as_state(number_behind_pass(next_numbers(net), as_number(state), order), len(state))


def order_run(net, state, order):
    """The pair (TAIL, RING) of the states behind no, one, two .. passes."""
    check_net(net)
    check_state(net, state)
    check_order(net, order)
    nexts = next_numbers(net)
    behind = [number_behind_pass(nexts, number, order) for number in range(len(nexts))]
    tail, ring = tail_and_ring(behind, as_number(state))
    return (as_states(tail, len(state)), as_states(ring, len(state)))


def is_row(net, state, row):
    """Whether a row of cells is a row of moves from a state."""
    return behind_row(net, state, row) is not None


def behind_row(net, state, row):
    """The state behind a row of moves from a state; None if the row of cells is none."""
    check_net(net)
    check_state(net, state)
    check_cells(net, row, 0, LONGEST_ROW)
    number = number_behind_row(next_numbers(net), as_number(state), row)
    return None if number is None else as_state(number, len(state))
