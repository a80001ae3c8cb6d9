"""Scales, by which the cells of a net heed one another alike, and what speaks against them."""
from heednets.nets import check_net, is_cell_of
from heednets.ratios import are_fractions, product_of, ratio
from heednets.ways import way_back


def sign(fraction):
    return (fraction[0] > 0) - (fraction[0] < 0)


def is_even(net):
    """Whether all cells heed one another alike as they are."""
    check_net(net)
    return fit_scales(net, ((1, 1),) * len(net[1]))


def are_scales(net, value):
    """Whether a value, whatever it is, is a row of scales for the net."""
    check_net(net)
    many = len(net[1])
    if not are_fractions(value, many) or not all(scale[0] > 0 for scale in value):
        return False
    return fit_scales(net, value)


def fit_scales(net, scales):
    many = len(net[1])
    return all([is_alike(net, scales, cell, other) for other in range(many) for cell in range(other)])


def is_alike(net, scales, cell, other):
    """Whether two cells heed one another alike, by their scales."""
    there = product_of((scales[cell], net[0][cell][other]))
    return there == product_of((scales[other], net[0][other][cell]))


def pair_against(net):
    """The first pair of cells whose heeds for one another have unlike signs; None."""
    weights, marks = net
    for other in range(len(marks)):
        for cell in range(other):
            if sign(weights[cell][other]) != sign(weights[other][cell]):
                return (cell, other)
    return None


def grown_scales(net):
    """The told scales, if there are any, and the cell ahead from which each one was reached, or None."""
    weights, marks = net
    many = len(marks)
    scales, aheads = [None] * many, [None] * many
    for first in range(many):
        if scales[first] is not None:
            continue
        scales[first] = (1, 1)
        waiting = [first]
        while waiting:
            cell = waiting.pop(0)
            for other in range(many):
                if scales[other] is None and sign(weights[cell][other]) != 0:
                    scales[other] = scale_behind(scales[cell], weights[cell][other], weights[other][cell])
                    aheads[other] = cell
                    waiting.append(other)
    return tuple(scales), aheads


def scale_behind(scale, heed, back):
    """The scale of a cell that is heeded by one with a known scale, and heeds it back with the same sign."""
    return ratio(scale[0] * abs(heed[0]) * back[1], scale[1] * heed[1] * abs(back[0]))


def ring_through(aheads, cell, other):
    """The ring from a cell on the ways by which both were reached to the other one, which ties it."""
    way, other_way = way_back(aheads, cell), way_back(aheads, other)
    meeting = [step for step in way if step in other_way][0]
    there = way[:way.index(meeting) + 1]
    back = other_way[:other_way.index(meeting)]
    return tuple(there + back[::-1])


def scales_or_against(net):
    """("scales", SCALES), the told ones, or ("pair", (CELL, OTHER)) or ("ring", CELLS) against them."""
    check_net(net)
    against = pair_against(net)
    if against is not None:
        return ("pair", against)
    scales, aheads = grown_scales(net)
    for other in range(len(scales)):
        for cell in range(other):
            if not is_alike(net, scales, cell, other):
                return ("ring", ring_through(aheads, cell, other))
    return ("scales", scales)


def speaks_against(net, value):
    """Whether a value, whatever it is, is a pair or a ring, told as such, that speaks against scales."""
    check_net(net)
    if not isinstance(value, tuple) or len(value) != 2:
        return False
    word, cells = value
    many = len(net[1])
    if not isinstance(word, str) or not isinstance(cells, tuple):
        return False
    if not all(is_cell_of(many, cell) for cell in cells):
        return False
    if word == "pair":
        return does_pair_speak(net, cells)
    return word == "ring" and does_ring_speak(net, cells)


def does_pair_speak(net, cells):
    if len(cells) != 2 or cells[0] >= cells[1]:
        return False
    cell, other = cells
    return sign(net[0][cell][other]) != sign(net[0][other][cell])


def does_ring_speak(net, cells):
    if len(cells) < 3 or len(set(cells)) != len(cells):
        return False
    # At index 0 the index below is -1: the last cell, behind which the first one comes.
    heeds = [net[0][cells[at - 1]][cells[at]] for at in range(len(cells))]
    backs = [net[0][cells[at]][cells[at - 1]] for at in range(len(cells))]
    there, back = product_of(heeds), product_of(backs)
    return there[0] != 0 and back[0] != 0 and there != back
