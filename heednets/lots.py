"""Lots, ascending tuples of cells, and the numbers of the states in which just their cells are on."""
from heednets.errors import InvalidLot
from heednets.nets import is_cell_of
from heednets.states import cells_on


def check_lot(net, lot):
    if not isinstance(lot, tuple):
        raise InvalidLot(None)
    ahead = -1
    for index, cell in enumerate(lot):
        if not is_cell_of(len(net[1]), cell) or cell <= ahead:
            raise InvalidLot(index)
        ahead = cell


def is_lot(net, value):
    """Whether a value, whatever it is, is a lot of the net's cells."""
    try:
        check_lot(net, value)
    except InvalidLot:
        return False
    return True


def lot_number(lot):
    return sum([1 << cell for cell in lot])


def as_lots(numbers):
    """The lots with these numbers, ascending as tuples do, not by their numbers."""
    return tuple(sorted([tuple(cells_on(number)) for number in numbers]))


def least_numbers(numbers):
    """Of lots, by their numbers, ascending, those that have no other one of them within."""
    found = []
    for number in numbers:
        # What lies within a lot has a lesser number, so the least ones within it are found already.
        if not any([least & number == least for least in found]):
            found.append(number)
    return found
