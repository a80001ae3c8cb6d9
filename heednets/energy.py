"""Spares and lifted marks, and the energy, which each move lowers in a net with scales."""
from heednets.errors import NotScaled
from heednets.nets import check_cell, check_net, check_state
from heednets.ratios import as_wholes, least_of, product_of, ratio, sum_of
from heednets.scales import scales_or_against
from heednets.states import as_state
from heednets.wants import heard_less_mark


def spare_of(net, cell):
    overs, times = heard_less_mark(net, cell)
    spares = [over for over in overs if over > 0]
    return ratio(min(spares), times) if spares else None


def step_of(net, cell):
    """How far at least what a cell hears is from its lifted mark."""
    known = spare_of(net, cell)
    return (1, 1) if known is None else product_of((known, (1, 2)))


def lifted_mark(net, cell):
    return sum_of((net[1][cell], step_of(net, cell)))


def told_scales(net):
    word, told = scales_or_against(net)
    if word != "scales":
        raise NotScaled()
    return told


def scaled_net(net, scales):
    """Heeds and lifted marks, each cell's times its scale, all times one number that makes them whole; this number."""
    many = len(scales)
    parts = []
    for cell, scale in enumerate(scales):
        row = net[0][cell] + (lifted_mark(net, cell),)
        parts.extend([product_of((scale, part)) for part in row])
    wholes, times = as_wholes(parts)
    rows = [wholes[at:at + many + 1] for at in range(0, len(wholes), many + 1)]
    return [row[:many] for row in rows], [row[many] for row in rows], times


def least_fall(net, scales):
    return least_of([product_of((scale, step_of(net, cell))) for cell, scale in enumerate(scales)])


def falls_within(above, below, fall):
    """How many times a fall fits into above / below."""
    return above * fall[1] // (below * fall[0])


def sum_on(row, state):
    """The sum of a row of whole numbers over the cells that are on."""
    return sum([part * on for part, on in zip(row, state)])


def ties_between(ties, state, other):
    """The sum of the ties of the cells that are on in a state with those that are on in another one."""
    return sum_on([sum_on(row, other) for row in ties], state)


def doubled_energy(ties, marks, state):
    # Twice the energy, as half of the whole number that ties tell need not be one.
    return 2 * sum_on(marks, state) - ties_between(ties, state, state)


def most_for(net, scales):
    """Within how many moves cells come to rest, as the energy for some scales shows."""
    ties, marks, times = scaled_net(net, scales)
    many = len(scales)
    energies = [doubled_energy(ties, marks, as_state(number, many)) for number in range(1 << many)]
    return falls_within(max(energies) - min(energies), 2 * times, least_fall(net, scales))


def spare(net, cell):
    """The least number above 0 by which what a cell hears is above its mark; None if it never is."""
    check_net(net)
    check_cell(net, cell)
    return spare_of(net, cell)


def lifted(net):
    """The net with lifted marks."""
    check_net(net)
    return (net[0], tuple([lifted_mark(net, cell) for cell in range(len(net[1]))]))


def energy(net, state):
    """The energy of a state, for the told scales."""
    check_net(net)
    check_state(net, state)
    ties, marks, times = scaled_net(net, told_scales(net))
    return ratio(doubled_energy(ties, marks, state), 2 * times)


def drop(net):
    """By how much each move lowers the energy at least, for the told scales."""
    check_net(net)
    return least_fall(net, told_scales(net))


def most_by_energy(net):
    """Within how many moves cells come to rest, as the energy for the told scales shows."""
    check_net(net)
    return most_for(net, told_scales(net))
