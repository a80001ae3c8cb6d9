"""Helping nets: what seeds light, lots that stay off without them, the least seeds, and the order of rests."""
from heednets.errors import InvalidLot, NotHelping
from heednets.lots import as_lots, check_lot, least_numbers, lot_number
from heednets.nets import check_net, check_rest
from heednets.states import as_number, as_state, cells_on
from heednets.wants import next_numbers


def is_helping(net):
    """Whether no weight is below 0."""
    check_net(net)
    return all([heed[0] >= 0 for row in net[0] for heed in row])


def check_helping(net):
    """Lets pass nets that are helping, and nothing else."""
    if not is_helping(net):
        raise NotHelping()


def check_seeds(net, seeds):
    check_net(net)
    check_lot(net, seeds)
    check_helping(net)


def grown(nexts, number):
    """The state that is come to when what is on is held on, and what wants on goes on."""
    while number | nexts[number] != number:
        number = number | nexts[number]
    return number


def shrunk(nexts, number):
    """The state that is come to when what is on and wants off goes off, and nothing goes on."""
    while number & nexts[number] != number:
        number = number & nexts[number]
    return number


def does_stay_off(nexts, number):
    """Whether none of the cells of a lot wants on when just all others are on."""
    return nexts[len(nexts) - 1 - number] & number == 0


def lighting_numbers(nexts):
    """The numbers of all lots that light all cells, ascending."""
    return [number for number in range(len(nexts)) if grown(nexts, number) == len(nexts) - 1]


def spread(net, seeds):
    """The lot of the cells that are on at last when the seeds are held on."""
    check_seeds(net, seeds)
    return tuple(cells_on(grown(next_numbers(net), lot_number(seeds))))


def does_light(net, seeds):
    """Whether the seeds light all cells."""
    return len(spread(net, seeds)) == len(net[1])


def is_stubborn(net, lot):
    """Whether a lot stays off, whatever is on outside of it."""
    check_net(net)
    check_lot(net, lot)
    if not lot:
        raise InvalidLot(None)
    check_helping(net)
    return does_stay_off(next_numbers(net), lot_number(lot))


def stubborn_lots(net):
    """The stubborn lots that have no stubborn lot within them, ascending."""
    check_helping(net)
    nexts = next_numbers(net)
    return as_lots(least_numbers([number for number in range(1, len(nexts)) if does_stay_off(nexts, number)]))


def least_seeds(net):
    """The lots that light all cells, and do not without any one of their cells, ascending."""
    check_helping(net)
    return as_lots(least_numbers(lighting_numbers(next_numbers(net))))


def fewest(net):
    """The lots that light all cells with as few cells as any, ascending."""
    lots = least_seeds(net)
    few = min([len(lot) for lot in lots])
    return tuple([lot for lot in lots if len(lot) == few])


def least_rest(net):
    """The rest that has on no cell beyond those of any other one."""
    check_helping(net)
    return as_state(grown(next_numbers(net), 0), len(net[1]))


def greatest_rest(net):
    """The rest that has on all cells of any other one."""
    check_helping(net)
    nexts = next_numbers(net)
    return as_state(shrunk(nexts, len(nexts) - 1), len(net[1]))


def rest_above(net, state, other):
    """The least rest that has on all cells of two rests."""
    check_net(net)
    check_rest(net, state)
    check_rest(net, other)
    check_helping(net)
    return as_state(grown(next_numbers(net), as_number(state) | as_number(other)), len(state))
