"""Heights, which fall with each move, and rounds, along which moves never end."""
from heednets.nets import check_net, check_state
from heednets.ratios import is_whole
from heednets.states import as_number, as_states, is_state_of
from heednets.wants import moves_from, next_numbers, tail_and_ring


def longest_rows(nexts):
    """For each state how many moves can be made from it; None where there is no end to them."""
    moves = [moves_from(nexts, number) for number in range(len(nexts))]
    aheads = [[] for _ in nexts]
    for number, leads in enumerate(moves):
        for behind in leads:
            aheads[behind].append(number)
    unknown = [len(leads) for leads in moves]
    longest = [None] * len(nexts)
    ready = [number for number, leads in enumerate(moves) if not leads]
    while ready:
        number = ready.pop()
        longest[number] = max([longest[behind] + 1 for behind in moves[number]], default=0)
        for ahead in aheads[number]:
            unknown[ahead] -= 1
            if unknown[ahead] == 0:
                ready.append(ahead)
    return longest


def by_height(longest):
    """The states from which each row of moves ends, least heights first."""
    known = [number for number, most in enumerate(longest) if most is not None]
    return sorted(known, key=lambda number: longest[number])


def endless_walk(nexts, longest, number):
    """The states of moves without end from a state that lets them: once on the way, and again and again."""
    behind = {}
    for known, most in enumerate(longest):
        if most is None:
            # From such a state some move leads to such a state, so going on among them comes back.
            behind[known] = [lead for lead in moves_from(nexts, known) if longest[lead] is None][0]
    return tail_and_ring(behind, number)


def heights_or_round(net):
    """("heights", HEIGHTS), the least ones, or ("round", ROUND)."""
    check_net(net)
    nexts = next_numbers(net)
    longest = longest_rows(nexts)
    if None in longest:
        _, ring = endless_walk(nexts, longest, longest.index(None))
        return ("round", as_states(ring, len(net[1])))
    return ("heights", tuple(longest))


def are_heights(net, value):
    """Whether a value, whatever it is, is a tuple of heights for the net."""
    check_net(net)
    nexts = next_numbers(net)
    if not isinstance(value, tuple) or len(value) != len(nexts):
        return False
    if not all(is_whole(height) and height >= 0 for height in value):
        return False
    for number, height in enumerate(value):
        if any([value[behind] >= height for behind in moves_from(nexts, number)]):
            return False
    return True


def is_round(net, value):
    """Whether a value, whatever it is, is a round of the net."""
    check_net(net)
    many = len(net[1])
    if not isinstance(value, tuple) or len(value) < 2:
        return False
    if not all(is_state_of(many, state) for state in value):
        return False
    numbers = [as_number(state) for state in value]
    if len(set(numbers)) != len(numbers):
        return False
    nexts = next_numbers(net)
    # At index 0 the index below is -1, the last state: from it a move leads to the first one.
    return all([numbers[at] in moves_from(nexts, numbers[at - 1]) for at in range(len(numbers))])


def most_moves(net, state):
    """How many moves can be made one behind the other from a state; None without an end."""
    check_net(net)
    check_state(net, state)
    return longest_rows(next_numbers(net))[as_number(state)]
