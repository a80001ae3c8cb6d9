"""Deeds: changes of a net, the states led along, and the states whose next ones a deed leaves as they are."""
from heednets.energy import lifted_mark
from heednets.errors import InvalidDeed
from heednets.lots import check_lot, is_lot
from heednets.nets import MOST_CELLS, check_net, check_state, is_cell_of
from heednets.ratios import are_fractions, is_above, is_fraction, opposite, sum_of
from heednets.states import as_states
from heednets.wants import next_numbers, wants_on

NIL = (0, 1)


def replaced(row, at, value):
    return row[:at] + (value,) + row[at + 1:]


def without(row, at):
    return row[:at] + row[at + 1:]


def in_order(row, order):
    return tuple([row[at] for at in order])


def does_weight_fit(net, parts):
    many = len(net[1])
    if len(parts) != 3 or not all(is_cell_of(many, cell) for cell in parts[:2]):
        return False
    return parts[0] != parts[1] and is_fraction(parts[2])


def net_of_weight(net, parts):
    cell, other, number = parts
    return (replaced(net[0], cell, replaced(net[0][cell], other, number)), net[1])


def does_mark_fit(net, parts):
    return len(parts) == 2 and is_cell_of(len(net[1]), parts[0]) and is_fraction(parts[1])


def net_of_mark(net, parts):
    cell, number = parts
    return (net[0], replaced(net[1], cell, number))


def same_state(state, parts):
    return state


def does_cell_fit(net, parts):
    many = len(net[1])
    if len(parts) != 3 or many == MOST_CELLS:
        return False
    row, column, mark = parts
    return are_fractions(row, many) and are_fractions(column, many) and is_fraction(mark)


def net_of_cell(net, parts):
    row, column, mark = parts
    weights = tuple([heeds + (heed,) for heeds, heed in zip(net[0], column)])
    return (weights + (row + (NIL,),), net[1] + (mark,))


def with_cell(state, parts):
    return state + (0,)


def does_strike_fit(net, parts):
    many = len(net[1])
    return len(parts) == 1 and many > 1 and is_cell_of(many, parts[0])


def net_of_strike(net, parts):
    cell = parts[0]
    return (tuple([without(heeds, cell) for heeds in without(net[0], cell)]), without(net[1], cell))


def without_cell(state, parts):
    return without(state, parts[0])


def with_struck(state, parts):
    return state[:parts[0]] + (0,) + state[parts[0]:]


def does_order_fit(net, parts):
    many = len(net[1])
    if len(parts) != 1 or not isinstance(parts[0], tuple) or len(parts[0]) != many:
        return False
    return all(is_cell_of(many, cell) for cell in parts[0]) and len(set(parts[0])) == many


def net_of_order(net, parts):
    order = parts[0]
    return (tuple([in_order(net[0][cell], order) for cell in order]), in_order(net[1], order))


def state_in_order(state, parts):
    return in_order(state, parts[0])


def state_out_of_order(state, parts):
    order = parts[0]
    return tuple([state[order.index(cell)] for cell in range(len(order))])


def does_turn_fit(net, parts):
    return len(parts) == 1 and is_lot(net, parts[0])


def turned_row(net, other, cell):
    """The heeds of a cell when the net is turned at a cell, be it itself or another one."""
    heeds = net[0][other]
    if other == cell:
        return tuple([opposite(heed) for heed in heeds])
    return replaced(heeds, cell, opposite(heeds[cell]))


def turned_mark(net, other, cell):
    if other == cell:
        # What is heard may be the mark, but never the lifted one, so with the other sign no want is lost.
        return opposite(lifted_mark(net, cell))
    return sum_of((net[1][other], opposite(net[0][other][cell])))


def turned_at(net, cell):
    cells = list(range(len(net[1])))
    return (tuple([turned_row(net, other, cell) for other in cells]),
            tuple([turned_mark(net, other, cell) for other in cells]))


def net_of_turn(net, parts):
    for cell in parts[0]:
        net = turned_at(net, cell)
    return net


def turned_state(state, parts):
    return tuple([1 - on if cell in parts[0] else on for cell, on in enumerate(state)])


# For each deed: whether it fits, the net behind it, a state led along, and the state that a state behind it was.
# A cell more leaves no state, so there nothing is asked for what it was.
DEEDS = {
    "weight": (does_weight_fit, net_of_weight, same_state, same_state),
    "mark": (does_mark_fit, net_of_mark, same_state, same_state),
    "cell": (does_cell_fit, net_of_cell, with_cell, same_state),
    "strike": (does_strike_fit, net_of_strike, without_cell, with_struck),
    "order": (does_order_fit, net_of_order, state_in_order, state_out_of_order),
    "turn": (does_turn_fit, net_of_turn, turned_state, turned_state),
}


def does_fit(net, value):
    """Whether a value, whatever it is, is a deed that fits a net."""
    if not isinstance(value, tuple) or not value or not isinstance(value[0], str) or value[0] not in DEEDS:
        return False
    judge = DEEDS[value[0]][0]
    return judge(net, value[1:])


def net_behind(net, deed):
    change = DEEDS[deed[0]][1]
    return change(net, deed[1:])


def led_state(deed, state):
    lead = DEEDS[deed[0]][2]
    return lead(state, deed[1:])


def state_that_was(deed, state):
    """The state that a state behind a deed was, the struck cell, if there is one, off."""
    lead = DEEDS[deed[0]][3]
    return lead(state, deed[1:])


def left_by_weight(net, parts, nexts):
    cell, other, number = parts
    stood = net[0][cell][other]
    if number == stood:
        return list(range(len(nexts)))
    # More heard ends no want to be on, less heard none to be off.
    rises = is_above(number, stood)
    return [at for at in range(len(nexts)) if (at >> other) & 1 == 0 or wants_on(nexts, at, cell) == rises]


def left_by_mark(net, parts, nexts):
    cell, number = parts
    stood = net[1][cell]
    if number == stood:
        return list(range(len(nexts)))
    rises = is_above(number, stood)
    return [at for at in range(len(nexts)) if wants_on(nexts, at, cell) != rises]


def left_numbers(net, deed, nexts):
    """The states that a deed leaves, ascending, by the next states of the net ahead; all by their numbers."""
    word = deed[0]
    if word == "weight":
        return left_by_weight(net, deed[1:], nexts)
    if word == "mark":
        return left_by_mark(net, deed[1:], nexts)
    if word == "cell":
        return []
    return list(range(len(nexts) // 2 if word == "strike" else len(nexts)))


def check_deed(net, deed):
    check_net(net)
    if not does_fit(net, deed):
        raise InvalidDeed(deed)


def fits(net, value):
    """Whether a value, whatever it is, is a deed that fits."""
    check_net(net)
    return does_fit(net, value)


def behind(net, deed):
    """The net behind a deed."""
    check_deed(net, deed)
    return net_behind(net, deed)


def led(net, deed, state):
    """The state led along."""
    check_deed(net, deed)
    check_state(net, state)
    return led_state(deed, state)


def leaves(net, deed):
    """The numbers of the states behind whose next states are those that they were, ascending."""
    check_deed(net, deed)
    return tuple(left_numbers(net, deed, next_numbers(net)))


def turned(net, lot):
    """The net turned at the cells of a lot, one behind the other."""
    check_net(net)
    check_lot(net, lot)
    return net_of_turn(net, (lot,))


def next_states(net):
    """The next states of all states, by their numbers."""
    check_net(net)
    return as_states(next_numbers(net), len(net[1]))
