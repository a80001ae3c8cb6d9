"""The sessions of the document, word for word, and what runs them."""

NETS = """
>>> from heednets.nets import heard, is_net, is_rest, is_state, moved, movers, number_of, rests, state_of, wanted
>>> nil, one, two, half = (0, 1), (1, 1), (2, 1), (1, 2)
>>> pals = (((nil, one), (one, nil)), (half, half))
>>> [is_net(pals), is_net((((one,),), (half,))), is_state(pals, (0, 1)), is_state(pals, (0, True)), number_of(pals, (0, 1)), state_of(pals, 3)]
[True, False, True, False, 2, (1, 1)]
>>> [heard(pals, 1, (1, 0)), wanted(pals, (1, 0)), movers(pals, (1, 0)), moved(pals, (1, 0), 1), is_rest(pals, (1, 1)), rests(pals)]
[(1, 1), (0, 1), (0, 1), (1, 1), True, ((0, 0), (1, 1))]
>>> moved(pals, (1, 1), 0)
raises InvalidCell(0)
"""

HEIGHTS = """
>>> from heednets.heights import are_heights, heights_or_round, is_round, most_moves
>>> chase = (((nil, one), ((-1, 1), nil)), (half, (-1, 2)))
>>> [heights_or_round(pals), are_heights(pals, (0, 5, 1, 0)), are_heights(pals, (1, 1, 2, 0)), most_moves(pals, (1, 0)), heights_or_round(chase)[0], most_moves(chase, (0, 0))]
[('heights', (0, 1, 1, 0)), True, False, 1, 'round', None]
>>> [is_round(chase, ((0, 0), (0, 1), (1, 1), (1, 0))), is_round(chase, ((0, 0), (0, 1))), is_round(pals, heights_or_round(chase)[1])]
[True, False, False]
"""

SCALES = """
>>> from heednets.scales import are_scales, is_even, scales_or_against, speaks_against
>>> lame = (((nil, two), (one, nil)), (half, half))
>>> turn = (((nil, two, one), (one, nil, one), (one, one, nil)), (half, half, half))
>>> [is_even(pals), is_even(lame), scales_or_against(lame), are_scales(lame, (two, (4, 1))), are_scales(lame, (one, one)), scales_or_against(chase)]
[True, False, ('scales', ((1, 1), (2, 1))), True, False, ('pair', (0, 1))]
>>> [scales_or_against(turn)[0], speaks_against(turn, ("ring", (0, 1, 2))), speaks_against(turn, ("pair", (0, 1))), speaks_against(pals, ("ring", (0, 1)))]
['ring', True, False, False]
"""

ENERGY = """
>>> from heednets.energy import drop, energy, lifted, most_by_energy, spare
>>> [spare(pals, 0), lifted(pals)[1], [energy(pals, state_of(pals, k)) for k in range(4)], drop(pals), most_by_energy(pals)]
[(1, 2), ((3, 4), (3, 4)), [(0, 1), (3, 4), (3, 4), (1, 2)], (1, 4), 3]
>>> energy(chase, (0, 0))
raises NotScaled()
"""

ATONCE = """
>>> from heednets.atonce import level, most_steps, rings, run, swings
>>> wheel = (((nil, nil, (-1, 1)), (one, nil, nil), (nil, one, nil)), ((-1, 2), half, half))
>>> [run(pals, (1, 0)), run(pals, (1, 1)), swings(pals), rings(pals)]
[((), ((1, 0), (0, 1))), ((), ((1, 1),)), (((1, 0), (0, 1)),), (((0, 0),), ((1, 0), (0, 1)), ((1, 1),))]
>>> [run(wheel, (0, 0, 0)), len(rings(wheel)), swings(wheel)]
[((), ((0, 0, 0), (1, 0, 0), (1, 1, 0), (1, 1, 1), (0, 1, 1), (0, 0, 1))), 2, (((0, 1, 0), (1, 0, 1)),)]
>>> [level(pals, (0, 1), (1, 0)), level(pals, (1, 1), (1, 1)), most_steps(pals, (1, 0))]
[(1, 2), (1, 1), 2]
>>> level(wheel, (0, 0, 0), (0, 0, 0))
raises NotScaled()
"""

DICE = """
>>> from heednets.dice import end_chances, mean_moves
>>> from heednets.ends import come_to, ends, fold, is_sure, round_at, row_to
>>> from heednets.orders import behind_row, is_row, order_run, pass_behind
>>> [pass_behind(pals, (1, 0), (0, 1)), pass_behind(pals, (1, 0), (1, 0)), order_run(pals, (1, 0), (0, 1)), is_row(pals, (1, 0), (0, 1)), behind_row(pals, (1, 0), (1,))]
[(0, 0), (1, 1), (((1, 0),), ((0, 0),)), False, (1, 1)]
>>> [come_to(pals, (1, 0)), ends(pals, (1, 0)), is_sure(pals, (1, 0)), row_to(pals, (1, 0), (1, 1)), round_at(pals, (1, 0)), fold(pals, (1, 1))]
[((0, 0), (1, 0), (1, 1)), ((0, 0), (1, 1)), False, (1,), None, ((1, 1),)]
>>> [end_chances(pals, (1, 0)), mean_moves(pals, (1, 0)), end_chances(wheel, (0, 0, 0)), len(round_at(chase, (0, 0)))]
[(((0, 0), (1, 2)), ((1, 1), (1, 2))), (1, 1), None, 4]
"""

FENCES = """
>>> from heednets.fences import any_net, fence, two_mixes
>>> from heednets.keeping import bound_of, does_keep, keeping_net, margin, widest
>>> one, half, nil, less = (1, 1), (1, 2), (0, 1), (-1, 1)
>>> alike, unlike = ((0, 0), (1, 1)), ((0, 0), (1, 0), (0, 1), (1, 1))
>>> friends = (((nil, one), (one, nil)), (half, half))
>>> [does_keep(friends, alike), margin(friends, alike), does_keep(friends, unlike), margin(friends, unlike), widest(alike)[0], widest(unlike)[0]]
[True, (1, 2), False, (-1, 2), (1, 2), (0, 1)]
>>> quarter = (1, 4)
>>> [bound_of(alike, ((quarter, quarter), (quarter, quarter))), bound_of(alike, ((half, nil), (nil, half))), does_keep(keeping_net(alike), alike), keeping_net(unlike), any_net(unlike)]
[(1, 2), None, True, None, None]
>>> [two_mixes(unlike, 0) is None, two_mixes(alike, 0), fence(unlike, 0), two_mixes(((0, 1), (1, 1)), 0)]
[False, None, None, (((0, 1), (1, 1)), ((1, 1), (0, 1)))]
"""

HELPING = """
>>> from heednets.coming import does_come_back, radius, row_away
>>> from heednets.helping import does_light, fewest, greatest_rest, is_helping, is_stubborn, least_rest, least_seeds, rest_above, spread, stubborn_lots
>>> [radius(friends, (0, 0)), does_come_back(friends, (0, 0), 1), row_away(friends, (0, 0), 1)[-1], row_away(friends, (0, 0), 0)]
[0, False, (1, 1), None]
>>> [is_helping(friends), spread(friends, ()), spread(friends, (1,)), does_light(friends, (0,)), is_stubborn(friends, (0, 1)), is_stubborn(friends, (0,)), stubborn_lots(friends), fewest(friends)]
[True, (), (0, 1), True, True, False, ((0, 1),), ((0,), (1,))]
>>> [least_rest(friends), greatest_rest(friends), rest_above(friends, (0, 0), (1, 1)), least_seeds(friends)]
[(0, 0), (1, 1), (1, 1), ((0,), (1,))]
"""

ALBUMS = r"""
>>> from heednets.albums import album_text, is_album, is_name, read_album
>>> alike = ((1, 2), pals, (("left", (1, 0)),))
>>> [is_album(alike), is_album(((2, 2), pals, ())), is_name("cell"), is_name("left"), album_text(alike)]
[True, False, False, True, 'board 1 2\ncell 0 1 1/2\ncell 1 0 1/2\npicture left\n#.\n']
>>> [read_album(album_text(alike)) == alike, read_album("board 1 1\ncell 0 -1/2\n")]
[True, ((1, 1), ((((0, 1),),), ((-1, 2),)), ())]
>>> read_album("board 1 2\ncell 0 1 1/2\ncell 1 1 1/2\n")
raises InvalidText(2)
>>> read_album("board 1 2\ncell 0 1 1/2\n")
raises InvalidText(2)
"""

DEEDS = """
>>> from heednets.deeds import behind, fits, leaves, led, next_states, turned
>>> next_states(pals)
((0, 0), (0, 1), (1, 0), (1, 1))
>>> [turned(pals, (0,)), led(pals, ("turn", (0,)), (1, 1)), next_states(turned(pals, (0,)))]
[((((0, 1), (-1, 1)), ((-1, 1), (0, 1))), ((-3, 4), (-1, 2))), (0, 1), ((1, 1), (1, 0), (0, 1), (0, 0))]
>>> [behind(pals, ("mark", 1, one)), leaves(pals, ("mark", 1, one)), leaves(pals, ("weight", 0, 1, two)), fits(pals, ("weight", 1, 1, one)), leaves(pals, ("strike", 0))]
[((((0, 1), (1, 1)), ((1, 1), (0, 1))), ((1, 2), (1, 1))), (0, 2), (0, 1, 2, 3), False, (0, 1)]
>>> behind(pals, ("cell", (one, nil), (nil, two), half))
((((0, 1), (1, 1), (0, 1)), ((1, 1), (0, 1), (2, 1)), ((1, 1), (0, 1), (0, 1))), ((1, 2), (1, 2), (1, 2)))
"""

BOOKS = """
>>> from heednets.books import again, album_in, changed, fresh_book, nexts_in, undone, work_of
>>> book = fresh_book(alike)
>>> raised = changed(book, ("mark", 1, one))
>>> [work_of(book, ("mark", 1, one)), nexts_in(raised), album_in(changed(book, ("turn", (0,))))[2], album_in(changed(book, ("strike", 1, (1, 1))))[2]]
[(1, 3), ((0, 0), (0, 0), (1, 0), (1, 0)), (('left', (0, 0)),), (('left', (1,)),)]
>>> [undone(raised)[0] == book[0], again(undone(raised)) == raised, album_in(changed(book, ("made",)))[1]]
[True, True, ((((0, 1), (-1, 1)), ((-1, 1), (0, 1))), ((-1, 2), (-1, 2)))]
>>> undone(book)
raises NothingToUndo()
"""

FILMS = r"""
>>> from heednets.films import drawing, read_drawing, read_rows, rows_of
>>> film = ((1, 0, 0, 1), (0, 0, 1, 1))
>>> [rows_of((2, 2), film), read_rows((2, 2), ('#. ..', '.# ##')) == film, read_drawing(drawing((2, 2), film), (2, 2), 2) == film]
[('#. ..', '.# ##'), True, True]
>>> drawing((1, 2), ((0, 1),)).split("\n")
['<svg xmlns="http://www.w3.org/2000/svg" viewBox="0 0 30 20">', '<rect x="10" y="0" width="9" height="9"/>', '</svg>']
>>> read_rows((2, 2), ('#. ..', '.#'))
raises InvalidLines(1)
"""

MADE = """
>>> from heednets.made import net_of
>>> [net_of(((1, 0),)), net_of(((1, 0, 0), (0, 1, 1)))[0][0], net_of(((1, 0, 0), (1, 1, 0)))]
[((((0, 1), (-1, 1)), ((-1, 1), (0, 1))), ((-1, 2), (-1, 2))), ((0, 1), (-2, 1), (-2, 1)), ((((0, 1), (0, 1), (-2, 1)), ((0, 1), (0, 1), (0, 1)), ((-2, 1), (0, 1), (0, 1))), ((-1, 1), (0, 1), (-1, 1)))]
"""

CONSOLE = r"""
>>> from heednets.console import fresh_console, said, told_all
>>> lines = ("album board 1 2 ; cell 0 1 1/2 ; cell 1 0 1/2 ; picture left ; #.", "take left", "wants", "move 1", "rest", "board", "rests", "scales", "falls", "mark 1 1", "undo", "step", "weight 0 0 1", "state #.", "rest")
>>> told_all(fresh_console(), lines)[1]
('2 cells, 1 pictures', 'at hand', '.#', '##', '0 moves: ##', '##', '..\n##', '1 1', 'always ends', 'anew: 2', 'done', 'no state', 'does not fit', 'at hand', '1 moves: ..')
>>> [said(fresh_console(), "rests")[1], said(fresh_console(), "album board")[1], said(fresh_console(), "fly")[1]]
['no album', 'wrong at 0', 'not understood']
"""

CHECKER = """
>>> from heednets.checker import accepts
>>> dark = ("turned to", pals, turned(pals, (0,)), (1, 0))
>>> [accepts(dark, (0,)), accepts(dark, (1,)), accepts(("nexts", pals, next_states(pals)), ()), accepts(("rest", pals, (1, 0)), ()), accepts("rest", ())]
[True, False, True, False, False]
"""

CERTIFICATES = r"""
>>> from heednets.certificates import certify_change, certify_dark, certify_end, certify_lights, certify_nexts, certify_read, certify_scales, certify_sure, certify_within
>>> [certify_end(pals)[0][0], certify_end(chase)[0][0], certify_scales(lame)[0][0], certify_within(pals)[0][2], certify_sure(pals, (1, 1))[0][0], certify_sure(pals, (1, 0))[0][0], certify_lights(pals, (0,))[0][0]]
['always ends', 'goes round', 'scales', 3, 'sure', 'open', 'lights']
>>> [certify_read("board\n"), certify_change(pals, ("strike", 2)) == (("no change", pals, ("strike", 2)), ()), certify_dark(pals, (1, 0)) == (dark, (0,)), accepts(*certify_nexts(pals))]
[(('not read', 'board\n', 0), ()), True, True, True]
"""


def run_session(text, known):
    """Runs a session with the names known so far; tells each place where another answer came."""
    wrong = []
    rows = text.strip().split("\n")
    for at, row in enumerate(rows):
        if not row.startswith(">>> "):
            continue
        due = rows[at + 1] if at + 1 < len(rows) and not rows[at + 1].startswith(">>> ") else None
        told = answer(row[4:], due is not None, known)
        if told != due:
            wrong.append((row, told))
    return wrong


def answer(line, is_asked, known):
    try:
        if not is_asked:
            exec(line, known)
            return None
        return repr(eval(line, known))
    except ValueError as error:
        kept = ", ".join(repr(value) for value in vars(error).values())
        return f"raises {error.__class__.__name__}({kept})"
