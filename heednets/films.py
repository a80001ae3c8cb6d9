"""Films, rows of states on a board: as rows of signs, as drawings, and both read back."""
from heednets.errors import InvalidDrawing, InvalidLines, InvalidNumber, InvalidStates
from heednets.ratios import is_whole
from heednets.shapes import cells_of, check_shape
from heednets.states import is_state_of
from heednets.texts import board_rows, read_signs

MOST_STATES = 12
# How far apart the cells of a drawing are.
STEP = 10


def check_film(shape, film):
    check_shape(shape)
    if not isinstance(film, tuple) or not 1 <= len(film) <= MOST_STATES:
        raise InvalidStates(None)
    for index, state in enumerate(film):
        if not is_state_of(cells_of(shape), state):
            raise InvalidStates(index)


def rows_of(shape, film):
    """The rows of a film: the signs of its states, side by side."""
    check_film(shape, film)
    boards = [board_rows(shape, state) for state in film]
    return tuple([" ".join(groups) for groups in zip(*boards)])


def read_groups(row, width):
    """What the cells of each group of a row are; None for what is no row of a film."""
    if not isinstance(row, str):
        return None
    groups = [read_signs(signs, width) for signs in row.split(" ")]
    return None if None in groups or len(groups) > MOST_STATES else groups


def read_rows(shape, rows):
    """The film whose rows they are."""
    check_shape(shape)
    height, width = shape
    if not isinstance(rows, tuple) or len(rows) != height:
        raise InvalidLines(None)
    film = []
    for index, row in enumerate(rows):
        groups = read_groups(row, width)
        if groups is None or (film and len(groups) != len(film)):
            raise InvalidLines(index)
        film = [state + group for state, group in zip(film, groups)] if film else groups
    return tuple(film)


def head_line(shape, many):
    height, width = shape
    size = f"{STEP * (width + 1) * many} {STEP * (height + 1)}"
    return f'<svg xmlns="http://www.w3.org/2000/svg" viewBox="0 0 {size}">'


def cell_line(shape, index, cell):
    """The line that draws a cell of the state with an index."""
    row, column = divmod(cell, shape[1])
    place = f'x="{STEP * (index * (shape[1] + 1) + column)}" y="{STEP * row}"'
    return f'<rect {place} width="9" height="9"/>'


def drawn(shape, film):
    lines = [head_line(shape, len(film))]
    for index, state in enumerate(film):
        lines.extend([cell_line(shape, index, cell) for cell, on in enumerate(state) if on])
    return "\n".join(lines + ["</svg>"])


def drawing(shape, film):
    """The drawing of a film, a text."""
    check_film(shape, film)
    return drawn(shape, film)


def read_drawing(drawing, shape, many):
    """The film of so many states whose drawing it is."""
    if not isinstance(drawing, str):
        raise InvalidDrawing(drawing)
    check_shape(shape)
    if not is_whole(many) or not 1 <= many <= MOST_STATES:
        raise InvalidNumber(many)
    lines = drawing.split("\n")
    cells = list(range(cells_of(shape)))
    film = tuple([tuple([1 if cell_line(shape, index, cell) in lines else 0 for cell in cells])
                  for index in range(many)])
    # No other film than the one of the lines that stand there can have this drawing; this one may have another.
    if drawn(shape, film) != drawing:
        raise InvalidDrawing(drawing)
    return film
