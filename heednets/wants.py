"""What the cells of a net want, in tables over all its states, by their numbers."""
from heednets.ratios import as_wholes
from heednets.states import cells_on


def sums_by_number(row):
    """For each state the sum of a row of whole numbers over the cells that are on."""
    sums = [0]
    for part in row:
        # A cell that is on adds its power of two to the number, so these states come behind.
        sums = sums + [known + part for known in sums]
    return sums


def heard_less_mark(net, cell):
    """For each state what the cell hears less its mark, times one number above 0; and this number."""
    weights, marks = net
    wholes, times = as_wholes(weights[cell] + (marks[cell],))
    mark = wholes.pop()
    return [heard - mark for heard in sums_by_number(wholes)], times


def next_numbers(net):
    """For each state the number of the state in which each cell is what it wants."""
    many = len(net[1])
    nexts = [0] * (1 << many)
    for cell in range(many):
        overs, _ = heard_less_mark(net, cell)
        for number, over in enumerate(overs):
            if over > 0:
                nexts[number] += 1 << cell
    return nexts


def wants_on(nexts, number, cell):
    return (nexts[number] >> cell) & 1 == 1


def whole_rows(net):
    """For each cell its weights, and behind them its mark, all times one number above 0 that makes them whole."""
    weights, marks = net
    rows = []
    for row, mark in zip(weights, marks):
        wholes, _ = as_wholes(row + (mark,))
        rows.append(wholes)
    return rows


def next_number(rows, number):
    """The next state of one state alone, by the whole rows of the net."""
    on = cells_on(number)
    return sum([1 << cell for cell, row in enumerate(rows) if sum([row[other] for other in on]) > row[-1]])


def movers_in(nexts, number):
    """The cells that want to be what they are not, ascending."""
    return cells_on(nexts[number] ^ number)


def moves_from(nexts, number):
    """The numbers of the states to which one move leads."""
    return [number ^ (1 << cell) for cell in movers_in(nexts, number)]


def tail_and_ring(behind, number):
    """From a number on always to the one behind it: those that come once, and those that come again."""
    places = {}
    path = []
    while number not in places:
        places[number] = len(path)
        path.append(number)
        number = behind[number]
    first = places[number]
    return path[:first], path[first:]
