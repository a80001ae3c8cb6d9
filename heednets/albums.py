"""Albums: a board, a net, and named pictures; their texts, and reading them."""
from heednets.errors import InvalidBook, InvalidText
from heednets.nets import MOST_CELLS, is_net
from heednets.pictures import MOST_PICTURES
from heednets.shapes import cells_of, is_shape
from heednets.states import is_state_of
from heednets.texts import board_rows, fraction_text, read_fraction, read_signs

LETTERS = "abcdefghijklmnopqrstuvwxyz"
LONGEST_NAME = 8
WORDS = ("board", "cell", "picture")


def is_name(value):
    """Whether a value, whatever it is, is a name."""
    if not isinstance(value, str) or not 1 <= len(value) <= LONGEST_NAME:
        return False
    return all(letter in LETTERS for letter in value) and value not in WORDS


def is_picture(value, many):
    """Whether a value is a pair of a name and a state of so many cells."""
    return isinstance(value, tuple) and len(value) == 2 and is_name(value[0]) and is_state_of(many, value[1])


def are_pictures(value, many):
    """Whether a value is what an album of so many cells can have as its pictures."""
    if not isinstance(value, tuple) or len(value) > MOST_PICTURES:
        return False
    if not all(is_picture(picture, many) for picture in value):
        return False
    return all([ahead[0] < behind[0] for ahead, behind in zip(value, value[1:])])


def check_album(album):
    if not isinstance(album, tuple) or len(album) != 3:
        raise InvalidBook(None)
    shape, net, pictures = album
    if not is_shape(shape):
        raise InvalidBook(0)
    many = cells_of(shape)
    if not is_net(net) or len(net[1]) != many:
        raise InvalidBook(1)
    if not are_pictures(pictures, many):
        raise InvalidBook(2)


def is_album(value):
    """Whether a value, whatever it is, is an album."""
    try:
        check_album(value)
    except InvalidBook:
        return False
    return True


def cell_row(cell, net):
    return " ".join(["cell"] + [fraction_text(part) for part in net[0][cell] + (net[1][cell],)])


def album_text(album):
    """The one text of an album."""
    check_album(album)
    shape, net, pictures = album
    rows = [f"board {shape[0]} {shape[1]}"]
    rows.extend([cell_row(cell, net) for cell in range(len(net[1]))])
    for name, state in pictures:
        rows.append(f"picture {name}")
        rows.extend(board_rows(shape, state))
    return "".join([row + "\n" for row in rows])


def row_at(rows, index):
    """The row with an index, at which the text is wrong if that row is due, but missing."""
    if index >= len(rows):
        raise InvalidText(index)
    return rows[index]


def read_shape(rows):
    row = row_at(rows, 0)
    for height in range(1, MOST_CELLS + 1):
        for width in range(1, MOST_CELLS // height + 1):
            if row == f"board {height} {width}":
                return (height, width)
    raise InvalidText(0)


def read_cell(rows, index, cell, many):
    """The weights of a cell, of so many, and its mark behind, as the row with an index tells them."""
    words = row_at(rows, index).split(" ")
    parts = [read_fraction(word) for word in words[1:]]
    if words[0] != "cell" or len(parts) != many + 1 or None in parts or parts[cell] != (0, 1):
        raise InvalidText(index)
    return tuple(parts)


def read_net(rows, many):
    cells = [read_cell(rows, 1 + cell, cell, many) for cell in range(many)]
    return (tuple([parts[:many] for parts in cells]), tuple([parts[many] for parts in cells]))


def read_name(rows, index, pictures):
    """The name that the row with an index tells, which comes behind the pictures read so far."""
    word, _, name = rows[index].partition(" ")
    if word != "picture" or not is_name(name) or len(pictures) == MOST_PICTURES:
        raise InvalidText(index)
    if pictures and name <= pictures[-1][0]:
        raise InvalidText(index)
    return name


def read_state(rows, first, shape):
    """The state that the rows of a board from an index on tell."""
    height, width = shape
    state = ()
    for index in range(first, first + height):
        part = read_signs(row_at(rows, index), width)
        if part is None:
            raise InvalidText(index)
        state = state + part
    return state


def read_pictures(rows, first, shape):
    pictures = []
    # Each picture has a row for its name, and those of the board.
    for index in range(first, len(rows), 1 + shape[0]):
        name = read_name(rows, index, pictures)
        pictures.append((name, read_state(rows, index + 1, shape)))
    return tuple(pictures)


def read_album(text):
    """The album whose text it is; otherwise InvalidText tells the first row that is wrong, or due."""
    if not isinstance(text, str):
        raise InvalidText(None)
    rows = text.split("\n")
    # What stands behind the last line end is no row, or one that lacks its own.
    unended = rows.pop()
    shape = read_shape(rows)
    many = cells_of(shape)
    net = read_net(rows, many)
    pictures = read_pictures(rows, 1 + many, shape)
    if unended:
        raise InvalidText(len(rows))
    return (shape, net, pictures)
