"""The checker: a claim is accepted with a paper that shows that it is so."""
from heednets.albums import read_album
from heednets.atonce import run
from heednets.claims import is_claim
from heednets.coming import near_numbers, unlike_cells
from heednets.deeds import fits, net_behind, next_states, turned
from heednets.dice import chance_row
from heednets.energy import most_for
from heednets.errors import InvalidText
from heednets.heights import are_heights, is_round
from heednets.helping import does_stay_off, grown
from heednets.keeping import bound_of, does_keep, is_mild, margin
from heednets.lots import is_lot, lot_number
from heednets.nets import is_cell_of, is_net, is_rest
from heednets.orders import is_short_row, number_behind_row, order_run
from heednets.papers import closed_numbers, falling_heights, is_empty, is_tuple_of, rests_among
from heednets.ratios import are_fractions, sum_of
from heednets.scales import are_scales, is_even, speaks_against
from heednets.states import as_number, cells_on, is_state_of
from heednets.wants import moves_from, next_numbers, wants_on

# Each of these tells whether a paper, whatever it is, is one for the parts of a claim, which are right as told.


def judge_rest(parts, paper):
    net, state = parts
    return is_empty(paper) and is_rest(net, state)


def judge_always_ends(parts, paper):
    return are_heights(parts[0], paper)


def judge_goes_round(parts, paper):
    return is_round(parts[0], paper)


def judge_scales(parts, paper):
    return are_scales(parts[0], paper)


def judge_no_scales(parts, paper):
    return speaks_against(parts[0], paper)


def judge_ends_within(parts, paper):
    net, number = parts
    return are_scales(net, paper) and most_for(net, paper) <= number


def judge_swings(parts, paper):
    net, state, other = parts
    nexts = next_numbers(net)
    number, there = as_number(state), as_number(other)
    return is_empty(paper) and number != there and nexts[number] == there and nexts[there] == number


def judge_run(parts, paper):
    net, state, tail, ring = parts
    return is_empty(paper) and run(net, state) == (tail, ring)


def judge_order_run(parts, paper):
    net, state, order, tail, ring = parts
    return is_empty(paper) and order_run(net, state, order) == (tail, ring)


def does_lead(net, nexts, state, other, row):
    """Whether a value is a row of moves from a state to another one."""
    return is_short_row(net, row) and number_behind_row(nexts, as_number(state), row) == as_number(other)


def judge_leads(parts, paper):
    net, state, other = parts
    return does_lead(net, next_numbers(net), state, other, paper)


def judge_leads_not(parts, paper):
    net, state, other = parts
    numbers = closed_numbers(next_numbers(net), len(state), paper)
    return numbers is not None and as_number(state) in numbers and as_number(other) not in numbers


def judge_sure(parts, paper):
    net, state, rest = parts
    nexts = next_numbers(net)
    heights = falling_heights(nexts, len(state), paper, 2)
    if heights is None or as_number(state) not in heights:
        return False
    return rests_among(nexts, heights) == [as_number(rest)]


def judge_open(parts, paper):
    net, state = parts
    if not is_tuple_of(paper, 2) or not all(is_short_row(net, row) for row in paper):
        return False
    nexts = next_numbers(net)
    there, other = [number_behind_row(nexts, as_number(state), row) for row in paper]
    if there is None:
        return False
    if other is not None and other != there and rests_among(nexts, [there, other]) == [there, other]:
        return True
    return len(paper[1]) > 0 and number_behind_row(nexts, there, paper[1]) == there


def judge_ends(parts, paper):
    net, state, rests = parts
    if not is_tuple_of(paper, 2) or not is_tuple_of(paper[0], len(rests)):
        return False
    rows, lot = paper
    nexts = next_numbers(net)
    numbers = closed_numbers(nexts, len(state), lot)
    if numbers is None or as_number(state) not in numbers:
        return False
    if rests_among(nexts, numbers) != [as_number(rest) for rest in rests]:
        return False
    return all([does_lead(net, nexts, state, rest, row) for rest, row in zip(rests, rows)])


def judge_chances(parts, paper):
    net, state, chances = parts
    nexts = next_numbers(net)
    heights = falling_heights(nexts, len(state), paper, 3)
    if heights is None or as_number(state) not in heights:
        return False
    rests = [as_number(rest) for rest, _ in chances]
    if rests_among(nexts, heights) != rests or not all(are_fractions(row[2], len(rests)) for row in paper):
        return False
    rows = {as_number(row[0]): row[2] for row in paper}
    if not all([rows[number] == chance_row(nexts, rows, number, rests) for number in heights]):
        return False
    return rows[as_number(state)] == tuple([chance for _, chance in chances])


def does_net_keep(pictures, value):
    """Whether a value is a net that keeps all pictures."""
    return is_net(value) and len(value[1]) == len(pictures[0]) and does_keep(value, pictures)


def judge_kept(parts, paper):
    return does_net_keep(parts[0], paper) and is_even(paper)


def judge_kept_by_none(parts, paper):
    return bound_of(parts[0], paper) == (0, 1)


def judge_widest(parts, paper):
    pictures, number = parts
    if not is_tuple_of(paper, 2):
        return False
    net, blames = paper
    if not is_net(net) or len(net[1]) != len(pictures[0]) or not is_mild(net):
        return False
    return margin(net, pictures) == number and bound_of(pictures, blames) == number


def judge_kept_by_any(parts, paper):
    return does_net_keep(parts[0], paper)


def is_mix(pictures, cell, side, value):
    """Whether a value is shares of the pictures in which a cell is as told, 0 for the others."""
    if not are_fractions(value, len(pictures)) or not all(share[0] >= 0 for share in value):
        return False
    if not all([picture[cell] == side or share[0] == 0 for picture, share in zip(pictures, value)]):
        return False
    return sum_of(value) == (1, 1)


def mean_in(pictures, cell, shares):
    return sum_of([share for picture, share in zip(pictures, shares) if picture[cell]])


def judge_not_kept_by_any(parts, paper):
    pictures = parts[0]
    many = len(pictures[0])
    if not is_tuple_of(paper, 3) or not is_cell_of(many, paper[0]):
        return False
    cell, ons, offs = paper
    if not is_mix(pictures, cell, 1, ons) or not is_mix(pictures, cell, 0, offs):
        return False
    others = [other for other in range(many) if other != cell]
    return all([mean_in(pictures, other, ons) == mean_in(pictures, other, offs) for other in others])


def judge_comes_back(parts, paper):
    net, picture, near = parts
    nexts = next_numbers(net)
    number = as_number(picture)
    heights = falling_heights(nexts, len(picture), paper, 2)
    if heights is None or not all([height >= 0 for height in heights.values()]):
        return False
    if not all([other in heights for other in near_numbers(nexts, number, near)]):
        return False
    return rests_among(nexts, heights) == [number]


def judge_may_go_away(parts, paper):
    net, picture, near = parts
    if not isinstance(paper, tuple) or not paper or not all(is_state_of(len(picture), state) for state in paper):
        return False
    nexts = next_numbers(net)
    number = as_number(picture)
    way = [as_number(state) for state in paper]
    if unlike_cells(number, way[0]) > near:
        return False
    if not all([there in moves_from(nexts, here) for here, there in zip(way, way[1:])]):
        return False
    last = way[-1]
    return last in way[:-1] or (nexts[last] == last and last != number)


def judge_lights(parts, paper):
    net, seeds = parts
    if not isinstance(paper, tuple):
        return False
    nexts = next_numbers(net)
    number = lot_number(seeds)
    for cell in paper:
        if not is_cell_of(len(net[1]), cell) or (number >> cell) & 1 or not wants_on(nexts, number, cell):
            return False
        number = number | (1 << cell)
    return number == len(nexts) - 1


def is_stubborn_lot(net, nexts, value):
    """Whether a value is a stubborn lot."""
    return is_lot(net, value) and len(value) > 0 and does_stay_off(nexts, lot_number(value))


def judge_lights_not(parts, paper):
    net, seeds = parts
    return is_stubborn_lot(net, next_numbers(net), paper) and lot_number(paper) & lot_number(seeds) == 0


def does_meet_all(lots, number):
    return all([lot & number != 0 for lot in lots])


def judge_fewest(parts, paper):
    net, many = parts
    if not is_tuple_of(paper, 2):
        return False
    seeds, lots = paper
    nexts = next_numbers(net)
    lit = len(nexts) - 1
    if not is_lot(net, seeds) or len(seeds) != many or grown(nexts, lot_number(seeds)) != lit:
        return False
    if not isinstance(lots, tuple) or not all(is_stubborn_lot(net, nexts, lot) for lot in lots):
        return False
    numbers = [lot_number(lot) for lot in lots]
    fewer = [number for number in range(len(nexts)) if len(cells_on(number)) < many]
    return not any([does_meet_all(numbers, number) for number in fewer])


def judge_nexts(parts, paper):
    net, nexts = parts
    return is_empty(paper) and next_states(net) == nexts


def judge_change(parts, paper):
    net, deed, other = parts
    return is_empty(paper) and fits(net, deed) and net_behind(net, deed) == other


def judge_no_change(parts, paper):
    net, value = parts
    return is_empty(paper) and not fits(net, value)


def judge_turned_to(parts, paper):
    net, other, state = parts
    # Only these cells lead the state to the dark one.
    return is_lot(net, paper) and list(paper) == cells_on(as_number(state)) and turned(net, paper) == other


def judge_read(parts, paper):
    text, album = parts
    try:
        return is_empty(paper) and read_album(text) == album
    except InvalidText:
        return False


def judge_not_read(parts, paper):
    text, line = parts
    try:
        read_album(text)
    except InvalidText as wrong:
        return is_empty(paper) and wrong.line == line
    return False


JUDGES = {
    "rest": judge_rest,
    "always ends": judge_always_ends,
    "goes round": judge_goes_round,
    "scales": judge_scales,
    "no scales": judge_no_scales,
    "ends within": judge_ends_within,
    "swings": judge_swings,
    "run": judge_run,
    "order run": judge_order_run,
    "leads": judge_leads,
    "leads not": judge_leads_not,
    "sure": judge_sure,
    "open": judge_open,
    "ends": judge_ends,
    "chances": judge_chances,
    "kept": judge_kept,
    "kept by none": judge_kept_by_none,
    "widest": judge_widest,
    "kept by any": judge_kept_by_any,
    "not kept by any": judge_not_kept_by_any,
    "comes back": judge_comes_back,
    "may go away": judge_may_go_away,
    "lights": judge_lights,
    "lights not": judge_lights_not,
    "fewest": judge_fewest,
    "nexts": judge_nexts,
    "change": judge_change,
    "no change": judge_no_change,
    "turned to": judge_turned_to,
    "read": judge_read,
    "not read": judge_not_read,
}


def accepts(claim, paper):
    """Whether a claim is one for the checker, and a paper is one for it, whatever both are."""
    if not is_claim(claim):
        return False
    judge = JUDGES[claim[0]]
    return judge(claim[1:], paper)
