"""Certificates: of two claims that exclude one another the one that is so, and a paper for it."""
from heednets.albums import read_album
from heednets.atonce import run
from heednets.coming import check_near, near_numbers, row_away
from heednets.deeds import fits, net_behind, next_states, turned
from heednets.dice import chance_rows, settled_from
from heednets.ends import ends, sure_rests
from heednets.energy import most_for, told_scales
from heednets.errors import InvalidText
from heednets.fences import any_net, two_mixes
from heednets.heights import endless_walk, heights_or_round, longest_rows
from heednets.helping import check_helping, check_seeds, fewest, grown, stubborn_lots
from heednets.keeping import widest, widest_of
from heednets.lots import lot_number
from heednets.nets import check_net, check_state
from heednets.papers import rests_among
from heednets.pictures import check_pictures
from heednets.scales import scales_or_against
from heednets.states import as_number, as_state, as_states, cells_on
from heednets.wants import next_numbers
from heednets.ways import cells_along, reached, way_to


def certify_end(net):
    """Whether each row of moves ends, by heights or a round."""
    word, told = heights_or_round(net)
    return (("always ends" if word == "heights" else "goes round", net), told)


def certify_scales(net):
    """Whether the net has scales, by these or by what speaks against them."""
    found = scales_or_against(net)
    return (("scales", net), found[1]) if found[0] == "scales" else (("no scales", net), found)


def certify_within(net):
    """Within how many moves cells come to rest, by the told scales."""
    check_net(net)
    scales = told_scales(net)
    return (("ends within", net, most_for(net, scales)), scales)


def heights_paper(longest, numbers, many):
    """Pairs of a state and its least height, ascending by the states' numbers."""
    return tuple([(as_state(number, many), longest[number]) for number in sorted(numbers)])


def row_along(aheads, number):
    return cells_along(way_to(aheads, number))


def two_rows(nexts, number):
    """Rows of moves from an open state: to two rests, or to a state of a round and round from there."""
    longest = longest_rows(nexts)
    if longest[number] is None:
        tail, ring = endless_walk(nexts, longest, number)
        return (cells_along(tail + ring[:1]), cells_along(ring + ring[:1]))
    aheads = reached(nexts, [number])
    return tuple([row_along(aheads, rest) for rest in rests_among(nexts, aheads)[:2]])


def open_pair(net, state, nexts):
    return (("open", net, state), two_rows(nexts, as_number(state)))


def certify_sure(net, state):
    """Whether a state is sure of a rest, by heights of all that is come to, or by two rows of moves."""
    check_net(net)
    check_state(net, state)
    nexts = next_numbers(net)
    number, many = as_number(state), len(state)
    rest = sure_rests(nexts)[number]
    if rest is None:
        return open_pair(net, state, nexts)
    paper = heights_paper(longest_rows(nexts), reached(nexts, [number]), many)
    return (("sure", net, state, as_state(rest, many)), paper)


def certify_leads(net, state, other):
    """Whether a state is come to from another one, by a row of moves or by all that is come to."""
    check_net(net)
    check_state(net, state)
    check_state(net, other)
    aheads = reached(next_numbers(net), [as_number(state)])
    if as_number(other) in aheads:
        return (("leads", net, state, other), row_along(aheads, as_number(other)))
    return (("leads not", net, state, other), as_states(sorted(aheads), len(state)))


def certify_ends(net, state):
    """The ends of a state, by rows of moves to them and all that is come to."""
    found = ends(net, state)
    aheads = reached(next_numbers(net), [as_number(state)])
    rows = tuple([row_along(aheads, as_number(rest)) for rest in found])
    return (("ends", net, state, found), (rows, as_states(sorted(aheads), len(state))))


def certify_run(net, state):
    """The run of a state."""
    tail, ring = run(net, state)
    return (("run", net, state, tail, ring), ())


def certify_chances(net, state):
    """The chances of a state's ends, by those of all that is come to; that it is open, if a round is come to."""
    check_net(net)
    check_state(net, state)
    nexts = next_numbers(net)
    number, many = as_number(state), len(state)
    numbers = settled_from(nexts, number)
    if numbers is None:
        return open_pair(net, state, nexts)
    rests = rests_among(nexts, sorted(numbers))
    rows = chance_rows(nexts, numbers, rests)
    paper = tuple([(told, height, rows[as_number(told)])
                   for told, height in heights_paper(longest_rows(nexts), numbers, many)])
    return (("chances", net, state, tuple(zip(as_states(rests, many), rows[number]))), paper)


def certify_kept(pictures):
    """Whether some net with scales keeps the pictures, by an even one or by blames."""
    check_pictures(pictures, 1)
    best, net, blames = widest_of(pictures)
    return (("kept", pictures), net) if best[0] > 0 else (("kept by none", pictures), blames)


def certify_widest(pictures):
    """The widest margin, by a mild net and by blames."""
    best, net, blames = widest(pictures)
    return (("widest", pictures, best), (net, blames))


def certify_any(pictures):
    """Whether some net, whatever it is, keeps the pictures, by one or by two mixes for a cell."""
    net = any_net(pictures)
    if net is not None:
        return (("kept by any", pictures), net)
    found = [(cell, two_mixes(pictures, cell)) for cell in range(len(pictures[0]))]
    cell, (ons, offs) = [part for part in found if part[1] is not None][0]
    return (("not kept by any", pictures), (cell, ons, offs))


def certify_coming(net, picture, many):
    """Whether a rest comes back from so many unlike cells, by heights or by a row of moves."""
    check_near(net, picture, many)
    away = row_away(net, picture, many)
    if away is not None:
        return (("may go away", net, picture, many), away)
    nexts = next_numbers(net)
    numbers = reached(nexts, near_numbers(nexts, as_number(picture), many))
    return (("comes back", net, picture, many), heights_paper(longest_rows(nexts), numbers, len(picture)))


def going_on(nexts, number):
    """The cells that go on behind seeds, the least one that wants on each time."""
    order = []
    while number | nexts[number] != number:
        cell = cells_on(nexts[number] & ~number)[0]
        order.append(cell)
        number = number | (1 << cell)
    return tuple(order)


def certify_lights(net, seeds):
    """Whether seeds light all cells, by the order in which the others go on or by those that stay off."""
    check_seeds(net, seeds)
    nexts = next_numbers(net)
    number = lot_number(seeds)
    left = len(nexts) - 1 - grown(nexts, number)
    if left:
        return (("lights not", net, seeds), tuple(cells_on(left)))
    return (("lights", net, seeds), going_on(nexts, number))


def certify_fewest(net):
    """With how few cells seeds light all, by such seeds and by the least stubborn lots."""
    check_helping(net)
    seeds = fewest(net)[0]
    return (("fewest", net, len(seeds)), (seeds, stubborn_lots(net)))


def certify_nexts(net):
    """The next states of all states."""
    return (("nexts", net, next_states(net)), ())


def certify_change(net, value):
    """What a value makes of the net, if it is a deed that fits; that it is none."""
    if fits(net, value):
        return (("change", net, value, net_behind(net, value)), ())
    return (("no change", net, value), ())


def certify_dark(net, state):
    """The net turned at the cells of a state that are on."""
    check_net(net)
    check_state(net, state)
    lot = tuple(cells_on(as_number(state)))
    return (("turned to", net, turned(net, lot), state), lot)


def certify_read(text):
    """The album that a text is read as, or the row at which it is wrong."""
    if not isinstance(text, str):
        raise InvalidText(None)
    try:
        return (("read", text, read_album(text)), ())
    except InvalidText as wrong:
        return (("not read", text, wrong.line), ())
