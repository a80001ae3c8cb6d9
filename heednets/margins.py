"""The widest margin that cells can have for pictures, with weights from -1 up to 1, exactly."""
from heednets.simplex import best_within

# Marks and the margin are told from this far below 0 on, as the reckoning takes numbers from 0 on alone. Up to seven
# others are heard from -7 to 7, so the margin of a cell that is on and off is below CAP, and its best marks are far
# from here; those of a cell that is always on may be here, but then it has more of a margin than that.
DEPTH = 16
# So that the margin has an end also where each cell is alike in all pictures.
CAP = 8


def asking_row(picture, cell, ties, place, width):
    """A row and its bound, by which a cell, its mark at this place, has the margin in a picture."""
    side = 1 if picture[cell] else -1
    others = [other for other, on in enumerate(picture) if on and other != cell]
    row = [0] * width
    for other in others:
        row[ties[cell, other]] -= side
    row[place] = side
    row[-1] = 1
    # Each weight is told as 1 more than it is, the mark and the margin as DEPTH more.
    return row, DEPTH + side * (DEPTH - len(others))


def bounding_row(place, width):
    row = [0] * width
    row[place] = 1
    return row


def lowered(fraction, whole):
    return (fraction[0] - whole * fraction[1], fraction[1])


def widest_margin(pictures, cells, ties):
    """(MARGIN, WEIGHTS, MARKS, SHARES): the widest margin that the cells have for the pictures.

    TIES tell for a cell and another one by which of the weights it heeds it, MARKS are those of the cells. If some of
    the cells is not alike in all pictures, SHARES, a row for each picture, one for each of the cells, have the sum 1,
    and show that there is no more: signed by whether the cell is on, they have the sum 0 for each cell, and the sum
    of what they make of each weight, without its sign, is the margin.
    """
    weights = len(set(list(ties.values())))
    width = weights + len(cells) + 1
    rows, bounds = [], []
    for picture in pictures:
        for at, cell in enumerate(cells):
            row, bound = asking_row(picture, cell, ties, weights + at, width)
            rows.append(row)
            bounds.append(bound)
    rows.extend([bounding_row(place, width) for place in range(weights)])
    bounds.extend([2] * weights)
    rows.append(bounding_row(width - 1, width))
    bounds.append(DEPTH + CAP)
    best, numbers, prices = best_within(bounding_row(width - 1, width), rows, bounds)
    shares = [tuple(prices[first:first + len(cells)]) for first in range(0, len(pictures) * len(cells), len(cells))]
    return (lowered(best, DEPTH), [lowered(number, 1) for number in numbers[:weights]],
            [lowered(number, DEPTH) for number in numbers[weights:-1]], shares)
