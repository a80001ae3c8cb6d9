"""Moves by dice: the chances of the ends of a state, and how many moves it takes on the mean."""
from heednets.heights import longest_rows
from heednets.nets import check_net, check_state
from heednets.ratios import mean_of, sum_of
from heednets.states import as_number, as_state
from heednets.wants import moves_from, next_numbers
from heednets.ways import reached


def settled_from(nexts, number):
    """All that is come to, least heights first; None if a state of a round is among it."""
    longest = longest_rows(nexts)
    if longest[number] is None:
        return None
    return sorted(reached(nexts, [number]), key=lambda other: longest[other])


def chance_row(nexts, rows, number, rests):
    """A state's chances of the rests, by the rows of those to which its moves lead."""
    behinds = moves_from(nexts, number)
    if not behinds:
        return tuple([(1, 1) if rest == number else (0, 1) for rest in rests])
    return tuple([mean_of([rows[behind][at] for behind in behinds]) for at in range(len(rests))])


def chance_rows(nexts, numbers, rests):
    """For each of the states, which stand least heights first, its chances of the rests."""
    rows = {}
    for number in numbers:
        rows[number] = chance_row(nexts, rows, number, rests)
    return rows


def mean_table(nexts, numbers):
    """For each of the states, which stand least heights first, how many moves it takes on the mean."""
    means = {}
    for number in numbers:
        behinds = moves_from(nexts, number)
        means[number] = sum_of(((1, 1), mean_of([means[behind] for behind in behinds]))) if behinds else (0, 1)
    return means


def end_chances(net, state):
    """The pairs of an end and its chance, ascending by the ends' numbers; None if a state of a round is come to."""
    check_net(net)
    check_state(net, state)
    nexts = next_numbers(net)
    number = as_number(state)
    numbers = settled_from(nexts, number)
    if numbers is None:
        return None
    rests = [other for other in sorted(numbers) if nexts[other] == other]
    row = chance_rows(nexts, numbers, rests)[number]
    return tuple([(as_state(rest, len(state)), chance) for rest, chance in zip(rests, row)])


def mean_moves(net, state):
    """How many moves it takes on the mean to come to rest; None if a state of a round is come to."""
    check_net(net)
    check_state(net, state)
    nexts = next_numbers(net)
    number = as_number(state)
    numbers = settled_from(nexts, number)
    return None if numbers is None else mean_table(nexts, numbers)[number]
