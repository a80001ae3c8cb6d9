"""Where moves lead: what is come to, ends, ways and rounds, and what is sure of a rest."""
from heednets.heights import by_height, longest_rows
from heednets.nets import check_net, check_rest, check_state
from heednets.states import as_number, as_states
from heednets.wants import moves_from, next_numbers
from heednets.ways import cells_along, reached, way_to


def sure_rests(nexts):
    """For each state the number of the rest that it is sure of; None if it is open."""
    told = [None] * len(nexts)
    for number in by_height(longest_rows(nexts)):
        # All that moves lead to has less height, so it is told already; a rest is sure of itself.
        behinds = [told[behind] for behind in moves_from(nexts, number)] or [number]
        if behinds.count(behinds[0]) == len(behinds):
            told[number] = behinds[0]
    return told


def come_to(net, state):
    """All states that are come to from a state, ascending by their numbers."""
    check_net(net)
    check_state(net, state)
    return as_states(sorted(reached(next_numbers(net), [as_number(state)])), len(state))


def ends(net, state):
    """All rests that are come to from a state, ascending by their numbers."""
    check_net(net)
    check_state(net, state)
    nexts = next_numbers(net)
    found = sorted(reached(nexts, [as_number(state)]))
    return as_states([number for number in found if nexts[number] == number], len(state))


def is_sure(net, state):
    """Whether a state has one end, and comes to no state of a round."""
    check_net(net)
    check_state(net, state)
    return sure_rests(next_numbers(net))[as_number(state)] is not None


def row_to(net, state, other):
    """A row of moves from a state to the other one, as short as can be; None."""
    check_net(net)
    check_state(net, state)
    check_state(net, other)
    aheads = reached(next_numbers(net), [as_number(state)])
    aim = as_number(other)
    return cells_along(way_to(aheads, aim)) if aim in aheads else None


def round_at(net, state):
    """A round whose first element is the state, as short as can be; None."""
    check_net(net)
    check_state(net, state)
    nexts = next_numbers(net)
    number = as_number(state)
    aheads = reached(nexts, moves_from(nexts, number))
    if number not in aheads:
        return None
    way = way_to(aheads, number)
    return as_states([number] + way[:-1], len(state))


def fold(net, rest):
    """All states that are sure of a rest, ascending by their numbers."""
    check_net(net)
    check_rest(net, rest)
    aim = as_number(rest)
    told = sure_rests(next_numbers(net))
    return as_states([number for number, sure in enumerate(told) if sure == aim], len(rest))
