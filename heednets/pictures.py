"""Pictures: ascending tuples of states of as many cells."""
from heednets.errors import InvalidPictures
from heednets.nets import MOST_CELLS
from heednets.states import as_number, is_state_of

MOST_PICTURES = 8


def check_tuple(pictures, fewest):
    if not isinstance(pictures, tuple) or not fewest <= len(pictures) <= MOST_PICTURES:
        raise InvalidPictures(None)


def check_states(pictures, many):
    ahead = -1
    for index, picture in enumerate(pictures):
        if not is_state_of(many, picture) or as_number(picture) <= ahead:
            raise InvalidPictures(index)
        ahead = as_number(picture)


def check_pictures(pictures, fewest):
    """Lets pass at least so many pictures of as many cells as the first one has."""
    check_tuple(pictures, fewest)
    first = pictures[0]
    if not isinstance(first, tuple) or not 1 <= len(first) <= MOST_CELLS:
        raise InvalidPictures(0)
    check_states(pictures, len(first))


def is_tuple_of_pictures(value, fewest):
    """Whether a value, whatever it is, is a row of at least so many pictures."""
    try:
        check_pictures(value, fewest)
    except InvalidPictures:
        return False
    return True


def check_pictures_of(net, pictures):
    """Lets pass pictures of a net's cells."""
    check_tuple(pictures, 1)
    check_states(pictures, len(net[1]))


def side_of(picture, cell):
    """The sign of a cell in a picture."""
    return 1 if picture[cell] else -1
