"""Pictures that are kept: margins, blames and their bounds, the widest margin, nets that heed alike."""
from heednets.margins import widest_margin
from heednets.nets import check_net
from heednets.pictures import check_pictures, check_pictures_of, side_of
from heednets.ratios import are_fractions, as_wholes, least_of, ratio, sum_of
from heednets.scales import is_even
from heednets.states import as_number
from heednets.wants import heard_less_mark, next_numbers


def does_keep(net, pictures):
    """Whether each of the pictures is a rest of the net."""
    check_net(net)
    check_pictures_of(net, pictures)
    nexts = next_numbers(net)
    return all([nexts[as_number(picture)] == as_number(picture) for picture in pictures])


def margin(net, pictures):
    """The least, over all pictures and cells, by which a cell is on the due side of its mark."""
    check_net(net)
    check_pictures_of(net, pictures)
    margins = []
    for cell in range(len(net[1])):
        overs, times = heard_less_mark(net, cell)
        least = min([side_of(picture, cell) * overs[as_number(picture)] for picture in pictures])
        margins.append(ratio(least, times))
    return least_of(margins)


def are_blames(pictures, value):
    """Whether a value, whatever it is, is a row of blames for each of the pictures."""
    many = len(pictures[0])
    if not isinstance(value, tuple) or len(value) != len(pictures):
        return False
    if not all(are_fractions(row, many) for row in value):
        return False
    parts = [part for row in value for part in row]
    if min(parts)[0] < 0 or sum_of(parts) != (1, 1):
        return False
    return all([signed_sum(pictures, value, cell) == (0, 1) for cell in range(many)])


def signed_sum(pictures, blames, cell):
    """The sum over all pictures of a cell's sign times its blame."""
    return sum_of([(side_of(picture, cell) * row[cell][0], row[cell][1]) for picture, row in zip(pictures, blames)])


def bound_of(pictures, blames):
    """Beyond which no mild net has a margin, as blames show; None for what are no blames."""
    check_pictures(pictures, 1)
    if not are_blames(pictures, blames):
        return None
    many = len(pictures[0])
    wholes, times = as_wholes([part for row in blames for part in row])
    rows = [wholes[at * many:(at + 1) * many] for at in range(len(pictures))]
    pairs = [(cell, other) for other in range(many) for cell in range(other)]
    return ratio(sum([abs(pair_sum(pictures, rows, cell, other)) for cell, other in pairs]), times)


def pair_sum(pictures, rows, cell, other):
    """What the weight between two cells counts for, if the rows tell the blames."""
    total = 0
    for picture, row in zip(pictures, rows):
        total += side_of(picture, cell) * row[cell] * picture[other]
        total += side_of(picture, other) * row[other] * picture[cell]
    return total


def is_mild(net):
    """Whether a net is even, its weights from -1 up to 1."""
    return is_even(net) and all([abs(above) <= below for row in net[0] for above, below in row])


def even_ties(many):
    """For each two cells, both orders, which weight it is by which they heed one another."""
    ties = {}
    for other in range(many):
        for cell in range(other):
            ties[cell, other] = ties[other, cell] = len(ties) // 2
    return ties


def widest_of(pictures):
    """The widest margin of mild nets, one that has it, and what shows that there is no more."""
    cells = list(range(len(pictures[0])))
    ties = even_ties(len(cells))
    best, weights, marks, shares = widest_margin(pictures, cells, ties)
    rows = [[(0, 1) if cell == other else weights[ties[cell, other]] for other in cells] for cell in cells]
    return best, (tuple([tuple(row) for row in rows]), tuple(marks)), tuple(shares)


def widest(pictures):
    """(NUMBER, NET, BLAMES): the widest margin, a mild net that has it, and blames whose bound it is."""
    check_pictures(pictures, 2)
    return widest_of(pictures)


def keeping_net(pictures):
    """An even net that keeps all pictures; None."""
    check_pictures(pictures, 1)
    best, net, _ = widest_of(pictures)
    return net if best[0] > 0 else None
