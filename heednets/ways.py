"""Ways from state to state by moves, the states told by their numbers."""
from heednets.wants import moves_from


def reached(nexts, firsts):
    """All states that are come to from the first ones, nearest first, each with the one ahead of it, or None."""
    aheads = {first: None for first in firsts}
    waiting = list(firsts)
    while waiting:
        number = waiting.pop(0)
        for behind in moves_from(nexts, number):
            if behind not in aheads:
                aheads[behind] = number
                waiting.append(behind)
    return aheads


def way_back(aheads, last):
    """The way from the last one back to the first one, which has none ahead of it."""
    way = [last]
    while aheads[way[-1]] is not None:
        way.append(aheads[way[-1]])
    return way


def way_to(aheads, last):
    return way_back(aheads, last)[::-1]


def cells_along(way):
    """The cells that move along a way of states."""
    return tuple([(number ^ behind).bit_length() - 1 for number, behind in zip(way, way[1:])])
