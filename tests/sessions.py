"""The sessions of the document, word for word, and what runs them."""

NETS = """
>>> from heednets.nets import heard, is_net, is_rest, is_state, moved, movers, number_of, rests, state_of, wanted
>>> nil, one, two, half = (0, 1), (1, 1), (2, 1), (1, 2)
>>> pals = (((nil, one), (one, nil)), (half, half))
>>> [is_net(pals), is_net((((one,),), (half,))), is_state(pals, (0, 1)), is_state(pals, (0, True)), number_of(pals, (0, 1)), state_of(pals, 3)]
[True, False, True, False, 2, (1, 1)]
>>> [heard(pals, 1, (1, 0)), wanted(pals, (1, 0)), movers(pals, (1, 0)), moved(pals, (1, 0), 1), is_rest(pals, (1, 1)), rests(pals)]
[(1, 1), (0, 1), (0, 1), (1, 1), True, ((0, 0), (1, 1))]
>>> moved(pals, (1, 1), 0)
raises InvalidCell(0)
"""

HEIGHTS = """
>>> from heednets.heights import are_heights, heights_or_round, is_round, most_moves
>>> chase = (((nil, one), ((-1, 1), nil)), (half, (-1, 2)))
>>> [heights_or_round(pals), are_heights(pals, (0, 5, 1, 0)), are_heights(pals, (1, 1, 2, 0)), most_moves(pals, (1, 0)), heights_or_round(chase)[0], most_moves(chase, (0, 0))]
[('heights', (0, 1, 1, 0)), True, False, 1, 'round', None]
>>> [is_round(chase, ((0, 0), (0, 1), (1, 1), (1, 0))), is_round(chase, ((0, 0), (0, 1))), is_round(pals, heights_or_round(chase)[1])]
[True, False, False]
"""


def run_session(text, known):
    """Runs a session with the names known so far; tells each place where another answer came."""
    wrong = []
    rows = text.strip().split("\n")
    for at, row in enumerate(rows):
        if not row.startswith(">>> "):
            continue
        due = rows[at + 1] if at + 1 < len(rows) and not rows[at + 1].startswith(">>> ") else None
        told = answer(row[4:], due is not None, known)
        if told != due:
            wrong.append((row, told))
    return wrong


def answer(line, is_asked, known):
    try:
        if not is_asked:
            exec(line, known)
            return None
        return repr(eval(line, known))
    except ValueError as error:
        kept = ", ".join(repr(value) for value in vars(error).values())
        return f"raises {error.__class__.__name__}({kept})"
