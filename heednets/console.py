"""The console: lines are answered, and change the book and the state at hand."""
from heednets.albums import album_text, read_album
from heednets.books import again, album_in, changed, deed_of, does_change_fit, fresh_book, nexts_in, undone, work_of
from heednets.deeds import led_state
from heednets.errors import InvalidLines, InvalidText, NothingToRedo, NothingToUndo
from heednets.films import rows_of
from heednets.heights import longest_rows
from heednets.lines import album_rows, read_line
from heednets.scales import scales_or_against
from heednets.states import as_number, as_state
from heednets.texts import fraction_text, signs_of
from heednets.wants import movers_in, tail_and_ring

MOST_LINES = 60
# At first there is no book, and while there is none, or none was chosen, no state at hand.
NO_BOOK = None
NO_STATE = ()
# Lines with these first words ask for a state at hand.
AT_HAND = ("keep", "move", "step", "rest", "wants", "board")


def cells_in(book):
    return len(album_in(book)[1][1])


def numbers_in(book):
    """The numbers of the next states of all states."""
    return [as_number(state) for state in nexts_in(book)]


def answer_album(console, told):
    try:
        album = read_album(album_rows(told))
    except InvalidText as wrong:
        return (console, f"wrong at {wrong.line}")
    return ((fresh_book(album), NO_STATE), f"{len(album[1][1])} cells, {len(album[2])} pictures")


def change_of_weight(console, told):
    return ("weight", told[0], told[1], told[2])


def change_of_mark(console, told):
    return ("mark", told[0], told[1])


def change_of_order(console, told):
    return ("order", tuple(told))


def change_of_turn(console, told):
    return ("turn", tuple(told))


def change_of_strike(console, told):
    return ("strike", told[0], (told[1], told[2]))


def change_of_cell(console, told):
    many = cells_in(console[0])
    parts = told[2:]
    # With another number of fractions than is asked for, the row or the column has a wrong length.
    return ("cell", tuple(parts[:many]), tuple(parts[many:-1]), parts[-1], (told[0], told[1]))


def change_of_keep(console, told):
    return ("keep", told[0], console[1])


def change_of_drop(console, told):
    return ("drop", told[0])


def change_of_made(console, told):
    return ("made",)


CHANGES = {
    "weight": change_of_weight,
    "mark": change_of_mark,
    "order": change_of_order,
    "turn": change_of_turn,
    "strike": change_of_strike,
    "cell": change_of_cell,
    "keep": change_of_keep,
    "drop": change_of_drop,
    "made": change_of_made,
}


def answer_change(console, change):
    book, state = console
    if not does_change_fit(album_in(book), change):
        return (console, "does not fit")
    led = led_state(deed_of(change), state) if state else NO_STATE
    return ((changed(book, change), led), f"anew: {len(work_of(book, change))}")


def answer_undo(console, told):
    try:
        return ((undone(console[0]), NO_STATE), "done")
    except NothingToUndo:
        return (console, "nothing there")


def answer_redo(console, told):
    try:
        return ((again(console[0]), NO_STATE), "done")
    except NothingToRedo:
        return (console, "nothing there")


def answer_state(console, told):
    book, _ = console
    if len(told[0]) != cells_in(book):
        return (console, "no state")
    return ((book, told[0]), "at hand")


def answer_take(console, told):
    book, _ = console
    for name, state in album_in(book)[2]:
        if name == told[0]:
            return ((book, state), "at hand")
    return (console, "no such picture")


def shown(book, state):
    """The console with a state at hand, and its signs as the answer."""
    return ((book, state), signs_of(state))


def answer_move(console, told):
    book, state = console
    cell = told[0]
    if cell >= len(state):
        return (console, "no such cell")
    number = as_number(state)
    if cell not in movers_in(numbers_in(book), number):
        return (console, "no mover")
    return shown(book, as_state(number ^ (1 << cell), len(state)))


def answer_step(console, told):
    book, state = console
    return shown(book, nexts_in(book)[as_number(state)])


def behind_least(nexts, number):
    """The state behind the move of the least mover; a rest itself."""
    cells = movers_in(nexts, number)
    return number ^ (1 << cells[0]) if cells else number


def answer_rest(console, told):
    book, state = console
    nexts = numbers_in(book)
    ways = [behind_least(nexts, number) for number in range(len(nexts))]
    tail, ring = tail_and_ring(ways, as_number(state))
    if len(ring) > 1:
        return (console, "round")
    rest = as_state(ring[0], len(state))
    return ((book, rest), f"{len(tail)} moves: {signs_of(rest)}")


def answer_wants(console, told):
    book, state = console
    return (console, signs_of(nexts_in(book)[as_number(state)]))


def answer_board(console, told):
    book, state = console
    return (console, "\n".join(rows_of(album_in(book)[0], (state,))))


def answer_rests(console, told):
    book, _ = console
    many = cells_in(book)
    found = [as_state(number, many) for number, wish in enumerate(numbers_in(book)) if number == wish]
    return (console, "\n".join([signs_of(rest) for rest in found]) if found else "none")


def answer_scales(console, told):
    word, scales = scales_or_against(album_in(console[0])[1])
    if word != "scales":
        return (console, "no scales")
    return (console, " ".join([fraction_text(scale) for scale in scales]))


def answer_falls(console, told):
    return (console, "goes round" if None in longest_rows(numbers_in(console[0])) else "always ends")


def answer_show(console, told):
    return (console, album_text(album_in(console[0])).removesuffix("\n"))


ANSWERS = {
    "undo": answer_undo,
    "redo": answer_redo,
    "state": answer_state,
    "take": answer_take,
    "move": answer_move,
    "step": answer_step,
    "rest": answer_rest,
    "wants": answer_wants,
    "board": answer_board,
    "rests": answer_rests,
    "scales": answer_scales,
    "falls": answer_falls,
    "show": answer_show,
}


def fresh_console():
    """A console without a book."""
    return (NO_BOOK, NO_STATE)


def answered(console, line):
    read = read_line(line)
    if read is None:
        return (console, "not understood")
    word, told = read
    if word == "album":
        return answer_album(console, told)
    if console[0] is None:
        return (console, "no album")
    if word in AT_HAND and not console[1]:
        return (console, "no state")
    if word in CHANGES:
        change = CHANGES[word]
        return answer_change(console, change(console, told))
    answer = ANSWERS[word]
    return answer(console, told)


def said(console, line):
    """The console behind a line, and the answer."""
    if not isinstance(line, str):
        raise InvalidLines(None)
    return answered(console, line)


def check_lines(lines):
    if not isinstance(lines, tuple) or len(lines) > MOST_LINES:
        raise InvalidLines(None)
    for index, line in enumerate(lines):
        if not isinstance(line, str):
            raise InvalidLines(index)


def told_all(console, lines):
    """The console behind all lines, and the answers."""
    check_lines(lines)
    answers = []
    for line in lines:
        console, answer = answered(console, line)
        answers.append(answer)
    return (console, tuple(answers))
