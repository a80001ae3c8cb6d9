"""A plain second checker, by the words of point [34]: what `accepts` is compared with on small nets."""
import inspect
from fractions import Fraction
from itertools import combinations
from math import gcd

from tests.helper import (are_blames_by_all, bound_by_all, drop_by_all, energy_by_all, ends_by_all, fits_scales,
                          flipped,
                          hears, is_open_by_all, keeps_by_all, leads, margin_by_all, number, on_a_round, pair,
                          pair_speaks, pass_by_all, reach, ring_speaks, rests_by_all, something_speaks, states_of,
                          tail_and_ring_by_all, wants)
from tests.second import behind_by_all, led_by_all, nexts_by_all, number_by_all, shapes_of, turned_by_all
from tests.test_albums import text_by_all, wrong_row
from tests.test_helping import is_stubborn_by_all, just, lights_by_all

def is_int(value):
    return value.__class__ is int


def is_row(value, many=None):
    return value.__class__ is tuple and many in (None, len(value))


def is_fraction(value):
    return is_row(value, 2) and all(map(is_int, value)) and value[1] > 0 and gcd(*value) == 1


def are_fractions(value, many):
    return is_row(value, many) and all(map(is_fraction, value))


def is_net(value):
    if not is_row(value, 2) or not is_row(value[0]) or not 1 <= len(value[0]) <= 8:
        return False
    many = len(value[0])
    return (all(are_fractions(row, many) for row in value[0]) and are_fractions(value[1], many)
            and all(value[0][i][i] == (0, 1) for i in range(many)))


def is_state(many, value):
    return is_row(value, many) and all(is_int(on) and on in (0, 1) for on in value)


def is_cell(many, value):
    return is_int(value) and 0 <= value < many


def are_cells(many, value, least, most):
    return is_row(value) and least <= len(value) <= most and all(is_cell(many, cell) for cell in value)


def is_lot(many, value):
    return are_cells(many, value, 0, many) and list(value) == sorted(set(value))


def are_states(many, value):
    return is_row(value) and all(is_state(many, state) for state in value)


def ascend(states):
    numbers = [number_by_all(state) for state in states]
    return numbers == sorted(set(numbers))


def are_pictures(value, least=1):
    if not is_row(value) or not least <= len(value) <= 8 or not is_row(value[0]) or not 1 <= len(value[0]) <= 8:
        return False
    return are_states(len(value[0]), value) and ascend(value)


def is_closed(net, state, value):
    """A closed tuple of states, the state among them."""
    return (are_states(len(net[1]), value) and ascend(value) and state in value
            and all(behind in value for met in value for behind in leads(net, met)))


def have_heights(net, state, value, wide):
    """Rows of a state of a closed tuple, its height, and more."""
    if not is_row(value) or not all(is_row(row, wide) and is_int(row[1]) for row in value):
        return False
    if not is_closed(net, state, tuple(row[0] for row in value)):
        return False
    heights = {row[0]: row[1] for row in value}
    return all(heights[behind] < heights[met] for met in heights for behind in leads(net, met))


def walk(net, state, row):
    """The state behind a row of moves of up to 400 cells; None if it is none."""
    if not are_cells(len(net[1]), row, 0, 400):
        return None
    for cell in row:
        if wants(net, state)[cell] == state[cell]:
            return None
        state = flipped(state, cell)
    return state


def rests_in(net, states):
    return [state for state in states if wants(net, state) == state]


def about(net, *states):
    """Whether a claim has a net, and behind it states of it."""
    return is_net(net) and all(is_state(len(net[1]), state) for state in states)


def judge_rest(net, state, paper):
    return about(net, state) and is_row(paper, 0) and wants(net, state) == state


def judge_always_ends(net, paper):
    if not is_net(net) or not is_row(paper, 2 ** len(net[1])) or not all(is_int(height) for height in paper):
        return False
    return min(paper) >= 0 and all(paper[number_by_all(behind)] < paper[number_by_all(state)]
                                   for state in states_of(len(net[1])) for behind in leads(net, state))


def judge_goes_round(net, paper):
    if not is_net(net) or not are_states(len(net[1]), paper) or len(paper) < 2 or len(set(paper)) < len(paper):
        return False
    return all(behind in leads(net, state) for state, behind in zip(paper, paper[1:] + paper[:1]))


def are_scales(net, value):
    return are_fractions(value, len(net[1])) and fits_scales(net, [number(scale) for scale in value])


def judge_scales(net, paper):
    return is_net(net) and are_scales(net, paper)


def judge_no_scales(net, paper):
    if not is_net(net) or not is_row(paper, 2) or paper[0].__class__ is not str:
        return False
    if not are_cells(len(net[1]), paper[1], 2, 8) or len(set(paper[1])) < len(paper[1]):
        return False
    if paper[0] == "pair":
        return len(paper[1]) == 2 and pair_speaks(net, *paper[1])
    return paper[0] == "ring" and len(paper[1]) > 2 and ring_speaks(net, paper[1])


def judge_ends_within(net, most, paper):
    if not is_net(net) or not is_int(most) or most < 0 or something_speaks(net) or not are_scales(net, paper):
        return False
    scales = [number(scale) for scale in paper]
    energies = [energy_by_all(net, scales, state) for state in states_of(len(net[1]))]
    return (max(energies) - min(energies)) / drop_by_all(net, scales) < most + 1


def judge_swings(net, state, other, paper):
    return (about(net, state, other) and is_row(paper, 0) and state != other and wants(net, state) == other
            and wants(net, other) == state)


def judge_run(net, state, tail, ring, paper):
    if not about(net, state) or not are_states(len(net[1]), tail) or not are_states(len(net[1]), ring):
        return False
    return is_row(paper, 0) and tail_and_ring_by_all(lambda told: wants(net, told), state) == (tail, ring)


def judge_order_run(net, state, order, tail, ring, paper):
    if not about(net, state) or not are_cells(len(net[1]), order, 1, 16):
        return False
    if not are_states(len(net[1]), tail) or not are_states(len(net[1]), ring):
        return False
    due = tail_and_ring_by_all(lambda told: pass_by_all(net, told, order), state)
    return is_row(paper, 0) and due == (tail, ring)


def judge_leads(net, state, other, paper):
    return about(net, state, other) and walk(net, state, paper) == other


def judge_leads_not(net, state, other, paper):
    return about(net, state, other) and is_closed(net, state, paper) and other not in paper


def judge_sure(net, state, rest, paper):
    if not about(net, state, rest) or not have_heights(net, state, paper, 2):
        return False
    return rests_in(net, [row[0] for row in paper]) == [rest]


def judge_open(net, state, paper):
    if not about(net, state) or not is_row(paper, 2):
        return False
    if not all(are_cells(len(net[1]), row, 0, 400) for row in paper) or walk(net, state, paper[0]) is None:
        return False
    there, other = walk(net, state, paper[0]), walk(net, state, paper[1])
    if other is not None and there != other and rests_in(net, [there, other]) == [there, other]:
        return True
    return paper[1] != () and walk(net, there, paper[1]) == there


def judge_ends(net, state, told, paper):
    if not about(net, state) or not are_states(len(net[1]), told) or list(told) != ends_by_all(net, state):
        return False
    if not is_row(paper, 2) or not is_row(paper[0], len(told)) or not is_closed(net, state, paper[1]):
        return False
    return (rests_in(net, paper[1]) == list(told)
            and all(walk(net, state, row) == rest for row, rest in zip(paper[0], told)))


def chances_by_all(net, state):
    """The chances of the ends, from move to move; None if a state of a round is come to."""
    if any(on_a_round(net, met) for met in reach(net, state)):
        return None
    known = {}

    def chances_from(met):
        if met not in known:
            behinds = [chances_from(behind) for behind in leads(net, met)]
            known[met] = {met: Fraction(1)} if not behinds else {
                rest: sum(told.get(rest, Fraction(0)) for told in behinds) / len(behinds)
                for told in behinds for rest in told}
        return known[met]
    return tuple((rest, pair(chances_from(state)[rest])) for rest in ends_by_all(net, state))


def judge_chances(net, state, told, paper):
    if not about(net, state) or not is_row(told) or not all(
            is_row(part, 2) and is_state(len(net[1]), part[0]) and is_fraction(part[1]) for part in told):
        return False
    if told != chances_by_all(net, state) or not have_heights(net, state, paper, 3):
        return False
    rests = [rest for rest, _ in told]
    if rests_in(net, [row[0] for row in paper]) != rests or not all(are_fractions(row[2], len(rests)) for row in paper):
        return False
    rows = {row[0]: [number(part) for part in row[2]] for row in paper}
    for met, row in rows.items():
        behinds = [rows[behind] for behind in leads(net, met)]
        due = [sum(part) / len(behinds) for part in zip(*behinds)] if behinds else [int(rest == met) for rest in rests]
        if row != due:
            return False
    return rows[state] == [number(chance) for _, chance in told]


def is_even(net):
    return fits_scales(net, [Fraction(1)] * len(net[1]))


def is_net_of(pictures, value):
    return is_net(value) and len(value[1]) == len(pictures[0])


def judge_kept(pictures, paper):
    return are_pictures(pictures) and is_net_of(pictures, paper) and is_even(paper) and keeps_by_all(paper, pictures)


def are_blames_with(pictures, value, bound):
    if not is_row(value, len(pictures)) or not all(are_fractions(row, len(pictures[0])) for row in value):
        return False
    rows = [[number(blame) for blame in row] for row in value]
    return are_blames_by_all(pictures, rows) and bound_by_all(pictures, rows) == bound


def judge_kept_by_none(pictures, paper):
    return are_pictures(pictures) and are_blames_with(pictures, paper, 0)


def judge_widest(pictures, told, paper):
    if not are_pictures(pictures, 2) or not is_fraction(told) or not is_row(paper, 2):
        return False
    if not is_net_of(pictures, paper[0]) or not is_even(paper[0]):
        return False
    if not all(-1 <= number(heed) <= 1 for row in paper[0][0] for heed in row):
        return False
    return (margin_by_all(paper[0], pictures) == number(told)
            and are_blames_with(pictures, paper[1], number(told)))


def judge_kept_by_any(pictures, paper):
    return are_pictures(pictures) and is_net_of(pictures, paper) and keeps_by_all(paper, pictures)


def judge_not_kept_by_any(pictures, paper):
    if not are_pictures(pictures) or not is_row(paper, 3) or not is_cell(len(pictures[0]), paper[0]):
        return False
    cell, means = paper[0], []
    for side, shares in ((1, paper[1]), (0, paper[2])):
        if not are_fractions(shares, len(pictures)):
            return False
        parts = [number(share) for share in shares]
        if min(parts) < 0 or sum(parts) != 1 or any(part for part, told in zip(parts, pictures) if told[cell] != side):
            return False
        means.append([sum(part * told[j] for part, told in zip(parts, pictures)) for j in range(len(pictures[0]))
                      if j != cell])
    return means[0] == means[1]


def unlike(state, other):
    return sum(one != two for one, two in zip(state, other))


def is_near(net, picture, many):
    return about(net, picture) and wants(net, picture) == picture and is_int(many) and 0 <= many <= len(picture)


def judge_comes_back(net, picture, many, paper):
    if not is_near(net, picture, many) or not have_heights(net, picture, paper, 2):
        return False
    states = [row[0] for row in paper]
    near = [state for state in states_of(len(picture)) if unlike(state, picture) <= many]
    return (min(row[1] for row in paper) >= 0 and all(state in states for state in near)
            and rests_in(net, states) == [picture])


def judge_may_go_away(net, picture, many, paper):
    if not is_near(net, picture, many) or not are_states(len(picture), paper) or not paper:
        return False
    if unlike(paper[0], picture) > many:
        return False
    if not all(behind in leads(net, state) for state, behind in zip(paper, paper[1:])):
        return False
    last = paper[-1]
    return last in paper[:-1] or (last != picture and wants(net, last) == last)


def is_seeded(net, seeds):
    return is_net(net) and min(number(heed) for row in net[0] for heed in row) >= 0 and is_lot(len(net[1]), seeds)


def judge_lights(net, seeds, paper):
    if not is_seeded(net, seeds) or not are_cells(len(net[1]), paper, 0, 8):
        return False
    lit, many = list(seeds), len(net[1])
    for cell in paper:
        if cell in lit or hears(net, cell, just(lit, many)) <= number(net[1][cell]):
            return False
        lit.append(cell)
    return len(lit) == many


def is_stubborn(net, value):
    return is_lot(len(net[1]), value) and value != () and is_stubborn_by_all(net, value)


def judge_lights_not(net, seeds, paper):
    return is_seeded(net, seeds) and is_stubborn(net, paper) and not set(paper) & set(seeds)


def judge_fewest(net, told, paper):
    if not is_seeded(net, ()) or not is_int(told) or not is_row(paper, 2):
        return False
    seeds, lots = paper
    if not is_lot(len(net[1]), seeds) or len(seeds) != told or not lights_by_all(net, seeds):
        return False
    if not is_row(lots) or not all(is_stubborn(net, lot) for lot in lots):
        return False
    fewer = [lot for many in range(told) for lot in combinations(range(len(net[1])), many)]
    return not any(all(set(lot) & set(told_lot) for told_lot in lots) for lot in fewer)


def judge_nexts(net, nexts, paper):
    return is_net(net) and is_row(paper, 0) and are_states(len(net[1]), nexts) and nexts_by_all(net) == nexts


def is_deed(net, value):
    """Whether a value is a deed that fits, by the words."""
    if not is_row(value) or not value or value[0].__class__ is not str:
        return False
    word, parts, many = value[0], value[1:], len(net[1])
    if word == "weight":
        return len(parts) == 3 and all(is_cell(many,
                                               i) for i in parts[:2]) and parts[0] != parts[1] and is_fraction(parts[2])
    if word == "mark":
        return len(parts) == 2 and is_cell(many, parts[0]) and is_fraction(parts[1])
    if word == "cell":
        return (len(parts) == 3 and many < 8 and are_fractions(parts[0], many) and are_fractions(parts[1], many)
                and is_fraction(parts[2]))
    if word == "strike":
        return len(parts) == 1 and many > 1 and is_cell(many, parts[0])
    if word == "order":
        return len(parts) == 1 and are_cells(many, parts[0], many, many) and len(set(parts[0])) == many
    return word == "turn" and len(parts) == 1 and is_lot(many, parts[0])


def judge_change(net, deed, other, paper):
    return (is_net(net) and is_deed(net, deed) and is_net(other) and is_row(paper, 0)
            and behind_by_all(net, deed) == other)


def judge_no_change(net, deed, paper):
    return is_net(net) and is_row(paper, 0) and not is_deed(net, deed)


def judge_turned_to(net, other, state, paper):
    if not about(net, state) or not is_net(other) or not is_lot(len(net[1]), paper):
        return False
    return turned_by_all(net, paper) == other and set(led_by_all(("turn", paper), state)) == {0}


def is_name(value):
    return (value.__class__ is str and 1 <= len(value) <= 8 and all("a" <= sign <= "z" for sign in value)
            and value not in ("board", "cell", "picture"))


def is_album(value):
    if not is_row(value, 3) or not is_net(value[1]) or not is_row(value[0], 2) or not all(map(is_int, value[0])):
        return False
    many = len(value[1][1])
    if value[0] not in shapes_of(many) or not is_row(value[2]) or len(value[2]) > 8:
        return False
    if not all(is_row(part, 2) and is_name(part[0]) and is_state(many, part[1]) for part in value[2]):
        return False
    names = [part[0] for part in value[2]]
    return names == sorted(set(names))


def judge_read(text, album, paper):
    if text.__class__ is not str or not is_album(album) or not is_row(paper, 0):
        return False
    return text_by_all(album) == text


def judge_not_read(text, line, paper):
    return text.__class__ is str and is_int(line) and is_row(paper, 0) and wrong_row(text) == line


JUDGES = {name[len("judge_"):].replace("_", " "): judge for name, judge in list(vars().items())
          if name.startswith("judge_")}


def accepted(claim, paper):
    """Whether the checker is to accept a paper for a claim."""
    if not is_row(claim) or not claim or claim[0].__class__ is not str or claim[0] not in JUDGES:
        return False
    judge = JUDGES[claim[0]]
    if len(claim) != len(inspect.signature(judge).parameters):
        return False
    return bool(judge(*claim[1:], paper))


def is_so(claim):
    """Whether a right claim is so, by looking at all; None for kinds where papers alone tell it."""
    word, *parts = claim
    if word in ("sure", "open"):
        net, state, *rest = parts
        return is_open_by_all(net, state) == (word == "open") and (word == "open" or ends_by_all(net, state) == rest)
    if word in ("always ends", "goes round"):
        return any(on_a_round(parts[0], state) for state in states_of(len(parts[0][1]))) == (word == "goes round")
    if word in ("scales", "no scales"):
        return something_speaks(parts[0]) == (word == "no scales")
    if word in ("leads", "leads not"):
        return (parts[2] in reach(parts[0], parts[1])) == (word == "leads")
    if word in ("lights", "lights not"):
        return lights_by_all(*parts) == (word == "lights")
    if word == "rest":
        return parts[1] in rests_by_all(parts[0])
    return None
