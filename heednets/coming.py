"""Coming back: from which states near a rest all moves lead to it, and rows that lead away."""
from heednets.ends import sure_rests
from heednets.errors import InvalidNumber
from heednets.heights import endless_walk, longest_rows
from heednets.nets import check_net, check_rest
from heednets.ratios import is_whole
from heednets.states import as_number, as_states, cells_on
from heednets.wants import next_numbers
from heednets.ways import reached, way_to


def check_near(net, picture, many):
    check_net(net)
    check_rest(net, picture)
    if not is_whole(many) or not 0 <= many <= len(net[1]):
        raise InvalidNumber(many)


def unlike_cells(number, other):
    return len(cells_on(number ^ other))


def near_numbers(nexts, number, many):
    """The states with up to so many cells unlike this one."""
    return [other for other in range(len(nexts)) if unlike_cells(number, other) <= many]


def does_come_back(net, picture, many):
    """Whether from each state with up to so many cells unlike the picture all moves end, and end there."""
    check_near(net, picture, many)
    return many <= radius(net, picture)


def radius(net, picture):
    """The greatest number of unlike cells from which the picture comes back."""
    check_net(net)
    check_rest(net, picture)
    number = as_number(picture)
    sures = sure_rests(next_numbers(net))
    away = [unlike_cells(number, other) for other, sure in enumerate(sures) if sure != number]
    return min(away, default=len(picture) + 1) - 1


def row_away(net, picture, many):
    """The states of a row of moves from a near state to another rest, or to where it was; None."""
    check_near(net, picture, many)
    nexts = next_numbers(net)
    number = as_number(picture)
    near = near_numbers(nexts, number, many)
    aheads = reached(nexts, near)
    for other in aheads:
        if nexts[other] == other and other != number:
            return as_states(way_to(aheads, other), len(picture))
    longest = longest_rows(nexts)
    for first in near:
        if longest[first] is None:
            tail, ring = endless_walk(nexts, longest, first)
            return as_states(tail + ring + ring[:1], len(picture))
    return None
