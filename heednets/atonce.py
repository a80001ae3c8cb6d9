"""All cells at once: runs, which end in a ring, swings between two states, and levels, which fall."""
from heednets.energy import falls_within, least_fall, scaled_net, sum_on, ties_between, told_scales
from heednets.nets import check_net, check_state
from heednets.ratios import ratio
from heednets.states import as_number, as_state, as_states
from heednets.wants import next_numbers, tail_and_ring


def run(net, state):
    """The pair (TAIL, RING) of the states behind a state, itself first."""
    check_net(net)
    check_state(net, state)
    tail, ring = tail_and_ring(next_numbers(net), as_number(state))
    return (as_states(tail, len(state)), as_states(ring, len(state)))


def swings(net):
    """All pairs of unlike states each of which is the next one of the other."""
    check_net(net)
    nexts = next_numbers(net)
    pairs = [(number, wish) for number, wish in enumerate(nexts) if number < wish and nexts[wish] == number]
    return tuple([as_states(pair, len(net[1])) for pair in pairs])


def rings(net):
    """All rings, each once, begun with its state of the least number, ascending by it."""
    check_net(net)
    nexts = next_numbers(net)
    found = []
    for number in range(len(nexts)):
        _, ring = tail_and_ring(nexts, number)
        # So each ring is taken once, from the state with which it is to begin.
        if number == min(ring):
            found.append(as_states(ring, len(net[1])))
    return tuple(found)


def whole_level(ties, marks, state, other):
    return sum_on(marks, state) + sum_on(marks, other) - ties_between(ties, state, other)


def level(net, other, state):
    """The level of OTHER and STATE, for the told scales."""
    check_net(net)
    check_state(net, other)
    check_state(net, state)
    ties, marks, times = scaled_net(net, told_scales(net))
    return ratio(whole_level(ties, marks, other, state), times)


def most_steps(net, state):
    """How long the tail of a state's run is at most, as the levels for the told scales show."""
    check_net(net)
    check_state(net, state)
    scales = told_scales(net)
    ties, marks, times = scaled_net(net, scales)
    # The least level of any two states is that of some state's next one and this state.
    levels = [whole_level(ties, marks, as_state(wish, len(state)), as_state(number, len(state)))
              for number, wish in enumerate(next_numbers(net))]
    return falls_within(levels[as_number(state)] - min(levels), times, least_fall(net, scales))
