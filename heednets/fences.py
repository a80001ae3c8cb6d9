"""Nets of any weights that keep pictures: a fence for each cell, or two mixes of pictures that let it have none."""
from heednets.margins import widest_margin
from heednets.nets import check_cell_of
from heednets.pictures import check_pictures
from heednets.ratios import ratio


def best_fence(pictures, cell):
    """The widest margin of one cell, its weights and its mark, and what shows that there is no more."""
    others = [other for other in range(len(pictures[0])) if other != cell]
    ties = {(cell, other): at for at, other in enumerate(others)}
    best, weights, marks, shares = widest_margin(pictures, [cell], ties)
    return best, tuple(weights[:cell] + [(0, 1)] + weights[cell:]), marks[0], [row[0] for row in shares]


def fence(pictures, cell):
    """(WEIGHTS, MARK) by which the cell wants what it is in each picture; None."""
    check_pictures(pictures, 1)
    check_cell_of(len(pictures[0]), cell)
    best, weights, mark, _ = best_fence(pictures, cell)
    return (weights, mark) if best[0] > 0 else None


def two_mixes(pictures, cell):
    """(ONS, OFFS), shares of the pictures in which the cell is on, is off, with one mean at each other cell; None."""
    check_pictures(pictures, 1)
    check_cell_of(len(pictures[0]), cell)
    best, _, _, shares = best_fence(pictures, cell)
    if best[0] > 0:
        return None
    # Signed the shares have the sum 0, so those of both sides have the sum 1 / 2 each.
    doubled = [ratio(2 * above, below) for above, below in shares]
    ons = [share if picture[cell] else (0, 1) for picture, share in zip(pictures, doubled)]
    offs = [(0, 1) if picture[cell] else share for picture, share in zip(pictures, doubled)]
    return (tuple(ons), tuple(offs))


def any_net(pictures):
    """A net that keeps all pictures; None."""
    check_pictures(pictures, 1)
    fences = [fence(pictures, cell) for cell in range(len(pictures[0]))]
    if None in fences:
        return None
    return (tuple([weights for weights, _ in fences]), tuple([mark for _, mark in fences]))
