"""The net of pictures: cells heed one another by how often they are alike in them."""
from heednets.errors import InvalidPictures
from heednets.nets import MOST_CELLS
from heednets.pictures import check_states, check_tuple, side_of
from heednets.ratios import ratio


def tie_of(pictures, cell, other):
    """In how many pictures two cells are alike, less in how many not; 0 for a cell and itself."""
    if cell == other:
        return 0
    return sum([side_of(picture, cell) * side_of(picture, other) for picture in pictures])


def check_made_of(pictures):
    check_tuple(pictures, 1)
    first = pictures[0]
    if not isinstance(first, tuple) or not 2 <= len(first) <= MOST_CELLS:
        raise InvalidPictures(0)
    check_states(pictures, len(first))


def net_of(pictures):
    """The net of pictures."""
    check_made_of(pictures)
    cells = list(range(len(pictures[0])))
    ties = [[tie_of(pictures, cell, other) for other in cells] for cell in cells]
    return (tuple([tuple([(tie, 1) for tie in row]) for row in ties]), tuple([ratio(sum(row), 2) for row in ties]))
