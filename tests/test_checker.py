"""Point [34], and "Papers" in [2]."""
import random
import unittest
from fractions import Fraction

from heednets import certificates as certs
from heednets.albums import album_text
from heednets.checker import accepts
from heednets.deeds import behind, next_states, turned
from heednets.energy import most_by_energy
from heednets.heights import heights_or_round
from heednets.scales import scales_or_against
from tests.accepted import JUDGES, accepted, chances_by_all, is_so
from tests.helper import (ALIKE, BOLD, CAUGHT, CHASE, FREED, HALF, LAME, LESS, NIL, ONE, PALS, SHY, STRANGE, TURN, TWO,
                          UNLIKE, WHEEL, Alike, Touchy, assert_signature, deep, drop_by_all, energy_by_all, ends_by_all,
                          flipped, is_open_by_all, leads, net_from, number, on_a_round, pair, pass_by_all, quiet,
                          random_helping, reach, rests_by_all, sample_nets, something_speaks, states_of,
                          tail_and_ring_by_all, wants)
from tests.second import nexts_by_all, random_album, random_deed, wrong_deeds
from tests.test_helping import all_lots, is_stubborn_by_all, lights_by_all

ODD = STRANGE + (0, 1, 2, 9 ** 30, ((),), ((), ()), ((0,),), (0,), (1, 1), ((0, 1),), "ring", deep(55), b"", "()",
                 [()],
                 Alike(), Touchy(), (Alike(),), (Touchy(), Touchy()), ((Alike(), 0),), ((Touchy(), 0, ()),))
NETS = sample_nets(180, 7, most=3) + [CAUGHT, FREED]
FRIENDS = PALS
QUARTER = (1, 4)
# Each of three is lit by both others.
TRIO = net_from([[0, 1, 1], [1, 0, 1], [1, 1, 0]], ["3/2", "3/2", "3/2"])


def claims_of_states(rng, net):
    """Claims and papers of one net's states, most of them so."""
    states = states_of(len(net[1]))
    state, other = rng.choice(states), rng.choice(states)
    order = tuple(rng.randrange(len(state)) for _ in range(rng.randint(1, 5)))
    found = [call(net, state) for call in (certs.certify_sure, certs.certify_ends, certs.certify_run,
                                           certs.certify_chances, certs.certify_dark)]
    found.append(certs.certify_leads(net, state, other))
    found.append((("rest", net, state), ()))
    found.append((("swings", net, state, wants(net, state)), ()))
    run = tail_and_ring_by_all(lambda told: pass_by_all(net, told, order), state)
    found.append((("order run", net, state, order) + run, ()))
    for rest in rests_by_all(net):
        found.append((("rest", net, rest), ()))
        found.append(certs.certify_coming(net, rest, rng.randint(0, len(rest))))
    return found


def claims_of_nets(rng, net):
    found = [call(net) for call in (certs.certify_end, certs.certify_scales, certs.certify_nexts)]
    if not something_speaks(net):
        found.append(certs.certify_within(net))
    deed = random_deed(rng, net)
    return found + [certs.certify_change(net, deed), certs.certify_change(net, deed[:-1])]


def claims_of_pictures(rng, pictures):
    found = [certs.certify_kept(pictures), certs.certify_any(pictures)]
    return found + ([certs.certify_widest(pictures)] if len(pictures) > 1 else [])


def claims_of_helping(rng, net):
    return [certs.certify_lights(net, rng.choice(all_lots(len(net[1])))), certs.certify_fewest(net)]


def sample_claims(seed):
    """Pairs of a claim and a paper, of all kinds."""
    rng = random.Random(seed)
    found = []
    for net in NETS:
        found += claims_of_states(rng, net) + claims_of_nets(rng, net)
    for pictures in (ALIKE, UNLIKE, ((0,), (1,)), ((0, 1),), ((0, 1), (1, 1)), ((1, 0, 0), (0, 1, 0), (0, 0, 1)),
                     ((1, 1, 0), (0, 0, 1), (1, 1, 1))):
        found += claims_of_pictures(rng, pictures)
    for _ in range(12):
        found += claims_of_helping(rng, random_helping(rng, rng.randint(1, 3)))
    for _ in range(8):
        text = album_text(random_album(rng, 3))
        found += [certs.certify_read(text), certs.certify_read(text[:-1]), certs.certify_read(text.replace("0", "1"))]
    return found


CLAIMS = sample_claims(181)


def variants(value):
    """Values that differ from a value in one place."""
    if isinstance(value, bool) or value is None:
        return [0]
    if isinstance(value, int):
        found = [value + 1, value - 1, -value, value + 2 ** 70, str(value), None]
        return found + ([bool(value)] if value in (0, 1) else [])
    if isinstance(value, str):
        return [value + " ", value[1:], value.upper(), value.encode(), value + "\n", (value,)]
    found = [list(value), value + (0,), value + ((),), (value,), None]
    for at, part in enumerate(value):
        found.append(value[:at] + value[at + 1:])
        found.append(value[:at + 1] + value[at:])
        if at + 1 < len(value):
            found.append(value[:at] + value[at + 1:at + 2] + value[at:at + 1] + value[at + 2:])
        found += [value[:at] + (other,) + value[at + 1:] for other in variants(part)]
    return found


class Checker(unittest.TestCase):
    def check(self, claim, paper):
        due = accepted(claim, paper)
        self.assertIs(accepts(claim, paper), due, (claim, paper))
        return due

    def yes(self, claim, *papers):
        for paper in papers:
            self.assertIs(accepted(claim, paper), True, (claim, paper))
            self.assertIs(accepts(claim, paper), True, (claim, paper))
            self.assertIs(accepts(claim=claim, paper=paper), True)

    def no(self, claim, *papers):
        for paper in papers:
            self.assertIs(accepted(claim, paper), False, (claim, paper))
            self.assertIs(accepts(claim, paper), False, (claim, paper))
            self.assertIs(accepts(claim=claim, paper=paper), False)


class All(Checker):
    def test_all_kinds_with_their_papers(self):
        told = {}
        for claim, paper in CLAIMS:
            told.setdefault(claim[0], set()).add(self.check(claim, paper))
        self.assertEqual(set(told), set(JUDGES))
        for word, found in told.items():
            self.assertIn(True, found, word)

    def test_papers_changed_at_one_place(self):
        rng = random.Random(182)
        told = {True: 0, False: 0}
        for claim, paper in CLAIMS:
            found = variants(paper)
            for wrong in found if len(found) < 40 else rng.sample(found, 40):
                told[self.check(claim, wrong)] += 1
        self.assertLess(100, min(told.values()), told)

    def test_claims_changed_at_one_place(self):
        rng = random.Random(183)
        told = {True: 0, False: 0}
        for claim, paper in CLAIMS:
            found = variants(claim)
            for wrong in found if len(found) < 40 else rng.sample(found, 40):
                told[self.check(wrong, paper)] += 1
        self.assertLess(50, min(told.values()), told)

    def test_papers_of_other_claims(self):
        rng = random.Random(184)
        pool = rng.sample(CLAIMS, 130)
        for claim, _ in pool:
            for _, paper in rng.sample(pool, 25):
                self.check(claim, paper)

    def test_words_of_other_claims(self):
        for claim, paper in CLAIMS[::3]:
            for word in JUDGES:
                self.check((word,) + claim[1:], paper)

    def test_papers_of_any_kind(self):
        for claim, _ in CLAIMS[::4]:
            for paper in ODD:
                due = accepted(claim, paper)
                self.assertIs(accepts(claim, paper), due, (claim, paper))

    def test_claims_of_any_kind(self):
        for value in ODD:
            self.assertIs(accepts(value, ()), False)
            self.assertIs(accepts(value, value), False)
            for word in JUDGES:
                self.assertIs(accepts((word,), value), False)
                self.assertIs(accepts((word, value), ()), False)
                self.assertIs(accepts((word, value, value), ()), False)
                self.assertIs(accepts((value, PALS), ()), False)
                for many in (3, 4, 5):
                    self.assertIs(accepts((word,) + (value,) * many, ()), False)
        for value in ((), [], "rest", ["rest", PALS, (0, 0)], ("Rest", PALS, (0, 0)), ("rest ", PALS, (0, 0)),
                      (b"rest", PALS, (0, 0)), ("fly", PALS), ("", PALS), (("rest",), PALS, (0, 0)), None, PALS):
            self.assertIs(accepts(value, ()), False)

    def test_parts_of_any_kind(self):
        rng = random.Random(185)
        for claim, paper in rng.sample(CLAIMS, 80):
            for at in range(1, len(claim)):
                for value in ODD:
                    wrong = claim[:at] + (value,) + claim[at + 1:]
                    self.assertIs(accepts(wrong, paper), accepted(wrong, paper), (wrong, paper))

    def test_what_is_so_alone_is_accepted(self):
        rng = random.Random(186)
        for net in NETS:
            for state in states_of(len(net[1])):
                other = rng.choice(states_of(len(net[1])))
                pairs = [certs.certify_sure(net, state), certs.certify_leads(net, state, other), certs.certify_end(net),
                         certs.certify_scales(net)]
                for claim, paper in pairs:
                    self.assertIs(is_so(claim), True)
                    self.yes(claim, paper)

    def test_parameters_have_the_names_of_the_document(self):
        assert_signature(self, accepts, "claim paper")


class Rests(Checker):
    def test_rests_and_swings(self):
        for net in NETS:
            for state in states_of(len(net[1])):
                claim = ("rest", net, state)
                self.assertIs(accepts(claim, ()), wants(net, state) == state)
                self.no(claim, [], None, ((),), 0, False, "", {})
                for other in states_of(len(net[1])):
                    due = state != other and wants(net, state) == other and wants(net, other) == state
                    self.assertIs(accepts(("swings", net, state, other), ()), due)
        self.yes(("swings", PALS, (1, 0), (0, 1)), ())
        self.yes(("swings", PALS, (0, 1), (1, 0)), ())
        self.no(("swings", PALS, (0, 0), (0, 0)), ())
        self.no(("swings", PALS, (1, 0), (0, 1)), ((1, 0), (0, 1)), [])

    def test_runs(self):
        claim = ("run", PALS, (1, 0), (), ((1, 0), (0, 1)))
        self.yes(claim, ())
        self.no(claim, ((),), (1, 0))
        for wrong in (("run", PALS, (1, 0), (), ((0, 1), (1, 0))), ("run", PALS, (1, 0), ((1, 0),), ((0, 1), (1, 0))),
                      ("run", PALS, (1, 0), (), ((1, 0), (0, 1), (1, 0), (0, 1))), ("run", PALS, (1, 0), (), ()),
                      ("run", PALS, (1, 0), ((1, 0), (0, 1)), ()), ("run", PALS, (0, 1), (), ((1, 0), (0, 1))),
                      ("run", PALS, (1, 0), (), ((True, 0), (0, 1))), ("run", PALS, (1, 0), (), [(1, 0), (0, 1)]),
                      ("run", PALS, (1, 0), [], ((1, 0), (0, 1))), ("run", PALS, (1, 0), ((1, 0), (0, 1)))):
            self.no(wrong, ())
        self.yes(("order run", PALS, (1, 0), (0, 1), ((1, 0),), ((0, 0),)), ())
        self.yes(("order run", PALS, (1, 0), (0,) * 16, ((1, 0),), ((0, 0),)), ())
        self.no(("order run", PALS, (1, 0), (0,) * 17, ((1, 0),), ((0, 0),)), ())
        self.no(("order run", PALS, (1, 0), (), (), ((1, 0),)), ())
        self.no(("order run", PALS, (1, 0), (2,), (), ((1, 0),)), ())
        self.no(("order run", PALS, (1, 0), (1, 0), ((1, 0),), ((0, 0),)), ())

    def test_next_states(self):
        for net in NETS:
            nexts = nexts_by_all(net)
            claim = ("nexts", net, nexts)
            self.yes(claim, ())
            self.no(claim, nexts, None, ((),))
            self.no(("nexts", net, nexts[:-1]), ())
            self.no(("nexts", net, nexts + nexts[:1]), ())
            for at in range(len(nexts)):
                self.no(("nexts", net, nexts[:at] + (flipped(nexts[at], 0),) + nexts[at + 1:]), ())


class Ends(Checker):
    def test_heights(self):
        rng = random.Random(187)
        for net in NETS + [LAME, PALS]:
            word, told = heights_or_round(net)
            if word == "round":
                self.no(("always ends", net), (0,) * 2 ** len(net[1]), told, tuple(range(2 ** len(net[1]))))
                self.yes(("goes round", net), told, told[1:] + told[:1])
                self.no(("goes round", net), told[::-1], told + told[:1], told[1:], told + told, list(told), ())
                continue
            claim = ("always ends", net)
            # More than the least ones, far above 64 bits, and unlike ones.
            self.yes(claim, told, tuple(height + 1 for height in told), tuple(height * 2 ** 80 for height in told),
                     tuple(height * 1000 + rng.randrange(1000) for height in told))
            self.no(claim, told[:-1], told + (0,), list(told), tuple(height - 1 for height in told), ())
            self.no(("goes round", net), told, tuple(states_of(len(net[1]))), (), states_of(len(net[1])))
            for at, height in enumerate(told):
                if height:
                    self.no(claim, told[:at] + (0,) + told[at + 1:])

    def test_heights_that_are_alike_behind_a_move(self):
        self.yes(("always ends", PALS), (0, 1, 1, 0), (5, 2 ** 70, 6, 5), (0, 7, 1, 0))
        self.no(("always ends", PALS), (0, 1, 0, 0), (1, 1, 2, 0), (0, 0, 1, 0), (0, True, 1, 0), (False, 1, 1, 0),
                (-1, 1, 1, 0), (0, 1, 1, -5), (0, 1, 1), (0, 1, 1, 0, 0), (0, (1, 1), 1, 0), (0, "1", 1, 0))

    def test_within(self):
        for net in NETS + [LAME, PALS]:
            if something_speaks(net):
                for most in (0, 1, 10 ** 9):
                    self.no(("ends within", net, most), ((1, 1),) * len(net[1]), ())
                continue
            most, told = most_by_energy(net), scales_or_against(net)[1]
            self.yes(("ends within", net, most), told, tuple(pair(number(scale) * 5 / 7) for scale in told))
            self.yes(("ends within", net, most + 1), told)
            self.yes(("ends within", net, 10 ** 300), told)
            self.no(("ends within", net, most), told[1:], told + (ONE,), list(told), (NIL,) * len(told), ())
            if most:
                self.no(("ends within", net, most - 1), told)
            self.no(("ends within", net, -1), told)
            self.no(("ends within", net, (most, 1)), told)
            self.no(("ends within", net, str(most)), told)
            self.no(("ends within", net, None), told)
        self.no(("ends within", PALS, True), (ONE, ONE))
        self.yes(("ends within", PALS, 3), (ONE, ONE), ((7, 3), (7, 3)))
        self.no(("ends within", PALS, 2), (ONE, ONE), ((7, 3), (7, 3)))
        self.no(("ends within", PALS, 3), (ONE, TWO))

    def test_scales_that_are_others_than_the_told_ones_tell_other_numbers(self):
        # Two parts: the scales of one part times a number let the energy fall more or less often.
        net = net_from([[0, 0], [0, 0]], ["-1/2", 3])
        due = {}
        for scale in (Fraction(1, 9), Fraction(1), Fraction(9)):
            scales = [Fraction(1), scale]
            energies = [energy_by_all(net, scales, state) for state in states_of(2)]
            most = (max(energies) - min(energies)) / drop_by_all(net, scales)
            due[scale] = int(most)
            paper = tuple(pair(part) for part in scales)
            self.yes(("ends within", net, int(most)), paper)
            self.no(("ends within", net, int(most) - 1), paper)
        self.assertEqual(most_by_energy(net), due[Fraction(1)])
        self.assertEqual(len(set(due.values())), 3)

    def test_a_number_that_is_just_met(self):
        # The energy falls by a whole number of drops, so one drop less is not enough.
        net = net_from([[0]], [-1])
        self.assertEqual(most_by_energy(net), 1)
        self.yes(("ends within", net, 1), (ONE,), ((3, 7),))
        self.no(("ends within", net, 0), (ONE,))

    def test_scales(self):
        self.yes(("scales", LAME), (ONE, TWO), (TWO, (4, 1)), ((10 ** 30, 3), (2 * 10 ** 30, 3)))
        self.no(("scales", LAME), (ONE, ONE), (TWO, ONE), (LESS, (-2, 1)), (NIL, NIL), (ONE, (4, 2)), (ONE,),
                [ONE, TWO],
                (1, 2), (ONE, TWO, ONE), ("pair", (0, 1)))
        self.yes(("no scales", CHASE), ("pair", (0, 1)))
        self.no(("no scales", CHASE), ("pair", (1, 0)), ("ring", (0, 1)), ("pair", [0, 1]), ["pair", (0, 1)],
                ("pair", 0, 1),
                ("Pair", (0, 1)), ("pair", (0, True)), ("pair", (0, 2)), (), ("pair", (0, 1), ()), ("pair", (-2, -1)))
        rings = [(0, 1, 2), (1, 2, 0), (2, 1, 0), (0, 2, 1)]
        self.yes(("no scales", TURN), *[("ring", cells) for cells in rings])
        self.no(("no scales", TURN), ("pair", (0, 1)), ("ring", (0, 1, 2, 0)), ("ring", (0, 1)), ("ring", (0, 1, 1)),
                ("ring", [0, 1, 2]), ("ring", (0, 1, 3)), ("ring", ()))
        self.no(("no scales", PALS), ("pair", (0, 1)), ("ring", (0, 1)), ("ring", (0, 1, 0)))
        self.no(("scales", CHASE), (ONE, ONE), ("pair", (0, 1)))


class Ways(Checker):
    def test_rows_of_400_and_of_401_cells(self):
        # Cells 0 and 1 chase one another: from the dark state four moves lead back.
        around = (1, 0, 1, 0)
        self.yes(("leads", CHASE, (0, 0), (0, 0)), (), around, around * 100)
        self.no(("leads", CHASE, (0, 0), (0, 0)), around * 101, around[:2])
        self.yes(("leads", CHASE, (0, 0), (0, 1)), around * 99 + (1,))
        self.no(("leads", CHASE, (0, 0), (0, 1)), around * 100 + (1,))
        self.yes(("open", CHASE, (0, 0)), ((), around), (around * 100, around * 100), (around[:1], (0, 1, 0, 1)))
        self.no(("open", CHASE, (0, 0)), (around * 101, around), ((), around * 101),
                (around * 100 + (1,), (0, 1, 0, 1)),
                ((), ()), ((), around[:2]), (around, (0, 1, 0, 1)), (around,), around, ((), list(around)))

    def test_leads(self):
        self.yes(("leads", PALS, (1, 0), (1, 1)), (1,))
        self.no(("leads", PALS, (1, 0), (1, 1)), (0,), (1, 1), (), (1, 0), [1], (True,), 1, (2,), (-1,), (1, None))
        self.no(("leads", PALS, (1, 1), (1, 0)), (1,), (), ((1, 1),))
        self.yes(("leads", PALS, (1, 1), (1, 1)), ())

    def test_leads_not(self):
        states = ((0, 0), (1, 0), (0, 1), (1, 1))
        self.yes(("leads not", PALS, (1, 1), (0, 0)), ((1, 1),))
        self.yes(("leads not", PALS, (0, 0), (1, 0)), ((0, 0),), ((0, 0), (1, 1)))
        self.yes(("leads not", PALS, (1, 0), (0, 1)), ((0, 0), (1, 0), (1, 1)))
        # A state is missing, doubled, out of order; the other one is among them; the first one is not.
        self.no(("leads not", PALS, (1, 0), (0, 1)), ((0, 0), (1, 0)), ((1, 0), (1, 1)), ((1, 0),), ((0, 0), (1, 1)),
                states,
                ((0, 0), (1, 0), (1, 0), (1, 1)), ((1, 0), (0, 0), (1, 1)), ((1, 1), (1, 0), (0, 0)), (),
                [(0, 0), (1, 0), (1, 1)], ((0, 0), (1, 0), (1, 1), (1, 1)), ((0, 0), (True, 0), (1, 1)), (0, 1, 3))
        self.no(("leads not", PALS, (1, 0), (1, 1)), ((0, 0), (1, 0), (1, 1)), ((0, 0), (1, 0)))

    def test_sure(self):
        claim = ("sure", PALS, (1, 1), (1, 1))
        self.yes(claim, (((1, 1), 0),), (((1, 1), -7),), (((1, 1), 2 ** 90),))
        self.no(claim, (), (((1, 1),),), (((1, 1), 0), ((1, 1), 0)), ([(1, 1), 0],), (((1, 1), False),),
                (((1, 1), ONE),),
                [((1, 1), 0)], (((0, 0), 0), ((1, 1), 0)), (((1, 1), None),), ((1, 1), 0), (((1, 1), 0, 0),),
                (((0, 0), 0),))
        self.no(("sure", PALS, (1, 1), (0, 0)), (((1, 1), 0),), (((0, 0), 0),))
        self.no(("sure", PALS, (1, 0), (0, 0)), (((0, 0), 0), ((1, 0), 1), ((1, 1), 0)), (((0, 0), 0), ((1, 0), 1)))
        self.no(("sure", PALS, (1, 0), (1, 0)), (((1, 0), 0),))
        chain = net_from([[0, 0], [1, 0]], [1, "1/2"])
        claim, paper = certs.certify_sure(chain, (1, 1))
        self.assertEqual(claim, ("sure", chain, (1, 1), (0, 0)))
        self.yes(claim, paper, (((0, 0), -2), ((1, 0), 13), ((0, 1), -1), ((1, 1), 9)))
        # A state from which nothing is come to may stand there, too, if it is sure of the rest.
        self.yes(("sure", chain, (0, 1), (0, 0)), (((0, 0), 0), ((0, 1), 1)), paper,
                 (((0, 0), 0), ((1, 0), 10), ((0, 1), 1), ((1, 1), 9)))
        self.no(claim, paper[1:], paper[:-1], paper[:1] + paper[2:], paper[::-1], paper[:1] + paper,
                tuple((state, 0) for state, _ in paper), tuple((state, -height) for state, height in paper),
                tuple((height, state) for state, height in paper))

    def test_open(self):
        self.yes(("open", PALS, (1, 0)), ((0,), (1,)), ((1,), (0,)))
        self.no(("open", PALS, (1, 0)), ((0,), (0,)), ((), (1,)), ((0,), ()), ((), ()), ((0,),), ((0,), (1,), ()),
                [(0,), (1,)], ((0,), [1]), ((0,), (2,)), ((0,), (0, 1)), (0, 1), ((1,), (1,)))
        self.no(("open", PALS, (0, 0)), ((), ()), ((0,), (1,)))
        # One row leads to a state of a round, the other one, which is not (), from there back to it, not from STATE on.
        late = net_from([[0, 1, 0], [-1, 0, 0], [0, 0, 0]], ["1/2", "-1/2", "1/2"])
        self.yes(("open", late, (0, 0, 1)), ((2,), (1, 0, 1, 0)), ((), (1, 0, 1, 0)), ((1, 2), (0, 1, 0, 1)))
        self.no(("open", late, (0, 0, 1)), ((2,), ()), ((2, 1), (1, 0, 1, 0)), ((2,), (2, 1, 0, 1, 0)),
                ((2, 2), (1, 0, 1, 0)))
        self.yes(("open", CAUGHT, (0, 0, 0)), certs.certify_sure(CAUGHT, (0, 0, 0))[1])

    def test_ends(self):
        claim = ("ends", PALS, (1, 0), ALIKE)
        lot = ((0, 0), (1, 0), (1, 1))
        self.yes(claim, (((0,), (1,)), lot))
        self.no(claim, (((1,), (0,)), lot), (((0,),), lot), (((0,), (1,), ()), lot), (((0,), (1,)), lot[1:]), ((), lot),
                (((0,), (1,)), lot[::-1]), (((0,), (1,)), states_of(2)), ([(0,), (1,)], lot), (((0,), (1,)), list(lot)),
                (((0,), [1]), lot), (lot, ((0,), (1,))), (((0,), (1,)), lot, ()), (((0,), (1,)),),
                (((0,), (1, 1)), lot))
        # A state that is not come to may stand in the lot as long as all moves stay there.
        self.yes(claim, (((0,), (1,)), ((0, 0), (1, 0), (0, 1), (1, 1))))
        self.no(("ends", PALS, (1, 0), ALIKE[::-1]), (((1,), (0,)), lot))
        self.no(("ends", PALS, (1, 0), ALIKE[:1]), (((0,),), lot), (((0,),), lot[:2]))
        self.no(("ends", PALS, (1, 0), ALIKE + ALIKE[1:]), (((0,), (1,), (1,)), lot))
        self.no(("ends", PALS, (1, 1), ALIKE), (((), ()), ALIKE))
        self.yes(("ends", PALS, (1, 1), ALIKE[1:]), (((),), ALIKE[1:]))
        self.no(("ends", PALS, (1, 1), ALIKE[1:]), (((),), ALIKE))
        self.yes(("ends", CHASE, (1, 1), ()), ((), tuple(states_of(2))))
        self.no(("ends", CHASE, (1, 1), ()), ((), tuple(states_of(2))[1:]), (), ((), ()))

    def test_longer_rows_to_the_ends(self):
        claim, (rows, lot) = certs.certify_ends(CAUGHT, (0, 0, 0))
        self.assertEqual(claim[3], ((1, 0, 1),))
        self.yes(claim, (((1, 0, 1, 0) + rows[0],), lot))

    def test_chances(self):
        both = (((0, 0), HALF), ((1, 1), HALF))
        claim = ("chances", PALS, (1, 0), both)
        paper = (((0, 0), 0, (ONE, NIL)), ((1, 0), 1, (HALF, HALF)), ((1, 1), 0, (NIL, ONE)))
        more = paper[:2] + (((0, 1), 5, (HALF, HALF)),) + paper[2:]
        self.yes(claim, paper, more, tuple((state, height - 4, row) for state, height, row in paper))
        self.no(claim, paper[1:], paper[:2], paper[::-1], paper + paper[2:], list(paper),
                tuple(row[:2] for row in paper),
                (((0, 0), 1, (ONE, NIL)),) + paper[1:], (((0, 0), 0, (NIL, ONE)),) + paper[1:],
                paper[:1] + (((1, 0), 1, ((1, 3), (2, 3))),) + paper[2:],
                paper[:1] + (((1, 0), 1, (HALF,)),) + paper[2:],
                paper[:1] + (((1, 0), 1, ((2, 4), HALF)),) + paper[2:],
                paper[:1] + (((1, 0), 1, [HALF, HALF]),) + paper[2:],
                more[:2] + (((0, 1), 5, (ONE, NIL)),) + more[3:], paper[:1] + (((1, 0), 0, (HALF, HALF)),) + paper[2:],
                paper[:2] + (((1, 1), 0, (NIL, HALF)),), tuple(row + ((),) for row in paper), ())
        for told in (both[:1], both[::-1], both + both[1:], (), None, (((0, 0), (1, 3)), ((1, 1), (2, 3))), list(both),
                     (((0, 0), ONE), ((1, 1), NIL)), (((0, 0), HALF), ((1, 1), HALF, 0)), ((0, HALF), (3, HALF))):
            self.no(("chances", PALS, (1, 0), told), paper, more)
        self.no(("chances", PALS, (0, 0), (((0, 0), ONE), ((1, 1), NIL))),
                (((0, 0), 0, (ONE, NIL)), ((1, 1), 0, (NIL, ONE))))
        self.yes(("chances", PALS, (0, 0), (((0, 0), ONE),)), (((0, 0), 0, (ONE,)),))
        # The rests among the states are to be just those of the chances.
        self.no(("chances", PALS, (0, 0), (((0, 0), ONE),)), (((0, 0), 0, (ONE, NIL)), ((1, 1), 0, (NIL, ONE))),
                (((0, 0), 0, (ONE,)), ((1, 1), 0, (NIL,))), (((0, 0), 0, (ONE,)), ((1, 1), 0, (ONE,))))
        self.no(("chances", CHASE, (0, 0), None), (), None)

    def test_chances_by_all(self):
        for net in NETS:
            for state in states_of(len(net[1])):
                told = chances_by_all(net, state)
                if told is not None:
                    claim, paper = certs.certify_chances(net, state)
                    self.yes(("chances", net, state, told), paper)
                    self.assertEqual(claim[3], told)


class Pictures(Checker):
    def test_kept(self):
        self.yes(("kept", ALIKE), FRIENDS, net_from([[0, 9], [9, 0]], [3, 3]))
        # Not even, not of as many cells, not keeping them, no net.
        self.no(("kept", ALIKE), LAME, SHY, WHEEL, quiet(2), ALIKE, (), [*FRIENDS], None)
        self.yes(("kept by any", ALIKE), FRIENDS, LAME)
        self.no(("kept by any", ALIKE), SHY, quiet(2), quiet(3), None, (), list(LAME))
        self.yes(("kept", ((0,),)), SHY)
        self.no(("kept", ((1,),)), SHY)
        self.yes(("kept", ((1,),)), BOLD)
        for wrong in ((), ALIKE[::-1], ALIKE + ALIKE, ALIKE[:1] * 2, list(ALIKE), (ALIKE[0], (1,)), None, (ALIKE,),
                      ((0, True),)):
            for word in ("kept", "kept by any", "kept by none", "not kept by any"):
                self.no((word, wrong), FRIENDS, ())

    def test_heard_that_just_meets_the_mark(self):
        self.yes(("kept", ((0, 0),)), quiet(2))
        self.no(("kept", ((1, 0),)), quiet(2))

    def test_blames(self):
        quarters = ((QUARTER, QUARTER),) * 2
        self.no(("kept by none", ALIKE), quarters, ((HALF, NIL), (NIL, HALF)), (), None)
        right = certs.certify_kept(UNLIKE)
        self.assertEqual(right[0][0], "kept by none")
        self.yes(*right)
        # Blames with a bound above 0.
        self.no(("kept by none", UNLIKE), ((QUARTER, QUARTER), (NIL, NIL), (NIL, NIL), (QUARTER, QUARTER)),
                right[1][:3],
                right[1] + right[1][:1], list(right[1]), ((NIL, NIL),) * 4, right[1][1:] + right[1][:1])
        self.yes(("kept by none", ((0,), (1,))), ((HALF,), (HALF,)))
        self.no(("kept by none", ((0,), (1,))), ((ONE,), (NIL,)), ((HALF,), ((2, 4),)), ((ONE,), (ONE,)),
                ((HALF,), (HALF,), ()))
        self.no(("kept by none", ((0, 1),)), ((NIL, NIL),), ((HALF, HALF),), ((ONE, NIL),))
        self.yes(("widest", ALIKE, HALF), (FRIENDS, quarters), (FRIENDS, ((HALF, NIL), (HALF, NIL))))
        self.no(("widest", ALIKE, HALF), (quarters, FRIENDS), (FRIENDS, quarters, ()), [FRIENDS, quarters], (FRIENDS,),
                FRIENDS,
                (FRIENDS, ((HALF, NIL), (NIL, HALF))), (net_from([[0, 2], [2, 0]], ["1/2", "1/2"]), quarters),
                (net_from([[0, 1], [1, 0]], ["1/3", "1/2"]), quarters), (LAME, quarters), (SHY, quarters),
                (None, quarters))
        for told in (ONE, (1, 3), (2, 4), NIL, 1, None, (True, 2), [1, 2], (-1, 2)):
            self.no(("widest", ALIKE, told), (FRIENDS, quarters))
        self.no(("widest", ((0,),), ONE), (net_from([[0]], [1]), ((ONE,),)))
        # A net with weights above 1 has a margin of more than the widest one, but is not mild.
        self.no(("widest", ALIKE, ONE), (net_from([[0, 2], [2, 0]], [1, 1]), quarters))
        self.yes(("widest", UNLIKE, NIL), (quiet(2), certs.certify_kept(UNLIKE)[1]))
        self.no(("widest", UNLIKE, (-1, 2)), (FRIENDS, certs.certify_kept(UNLIKE)[1]))

    def test_mixes(self):
        pictures = ((0, 1), (1, 1))
        ons, offs = (NIL, ONE), (ONE, NIL)
        self.yes(("not kept by any", pictures), (0, ons, offs))
        self.no(("not kept by any", pictures), (0, offs, ons), (1, ons, offs), (0, ons), (0, ons, offs, ()),
                [0, ons, offs],
                (False, ons, offs), (2, ons, offs), (-2, ons, offs), (None, ons, offs), (0, list(ons), offs),
                (0, (NIL, TWO), (TWO, NIL)), (0, (NIL, HALF), (HALF, NIL)), (0, (LESS, TWO), offs),
                (0, (HALF, HALF), offs),
                (0, ons + (NIL,), offs), (0, ons[1:], offs[:1]), (0, (NIL, (2, 2)), offs), (0, (0, 1), (1, 0)))
        four = ("not kept by any", UNLIKE)
        half = ((NIL, HALF, NIL, HALF), (HALF, NIL, HALF, NIL))
        self.yes(four, (0,) + half, (0, (NIL, ONE, NIL, NIL), (ONE, NIL, NIL, NIL)), (0, (NIL, NIL, NIL, ONE),
                 (NIL, NIL, ONE, NIL)), (1, (NIL, NIL, HALF, HALF), (HALF, HALF, NIL, NIL)))
        # Shares from below 0 with the sum 1; means that are unlike.
        self.no(four, (0, (NIL, TWO, NIL, LESS), (TWO, NIL, LESS, NIL)), (0, half[0], (ONE, NIL, NIL, NIL)),
                (1,) + half,
                (0, (NIL, (1, 3), NIL, (2, 3)), half[1]), (0,) + half[::-1])
        self.no(("not kept by any", ALIKE), (0, ons, offs), (1, ons, offs))
        # In three cells the means are to be alike at both others.
        three = ((1, 0, 0), (0, 0, 1), (1, 1, 1))
        off = (NIL, ONE, NIL)
        self.no(("not kept by any", three), (0, (ONE, NIL, NIL), off), (0, (NIL, NIL, ONE), off),
                (0, (HALF, NIL, HALF), off))


class Back(Checker):
    def test_comes_back(self):
        claim = ("comes back", TRIO, (0, 0, 0), 1)
        paper = certs.certify_coming(TRIO, (0, 0, 0), 1)[1]
        self.assertEqual(paper, (((0, 0, 0), 0), ((1, 0, 0), 1), ((0, 1, 0), 1), ((0, 0, 1), 1)))
        self.yes(claim, paper, tuple((state, height + 2 ** 66) for state, height in paper))
        self.yes(("comes back", TRIO, (0, 0, 0), 0), paper, paper[:1], paper[:2])
        # States missing, doubled, out of order; heights below 0, alike behind a move; another rest, and its neighbour.
        self.no(claim, paper[:-1], paper[:1] + paper[2:], paper[::-1], paper + paper[3:], list(paper), paper[1:], (),
                tuple((state, height - 1) for state, height in paper), tuple((state, 0) for state, _ in paper),
                paper + (((1, 1, 1), 0),), paper + (((1, 1, 0), 9),), tuple(state for state, _ in paper),
                tuple((state, True if height else 0) for state, height in paper), ((0,) * 3,), None)
        self.no(("comes back", TRIO, (0, 0, 0), 2), paper)
        self.no(("comes back", TRIO, (0, 0, 0), 2), paper + (((1, 1, 1), 0),))
        for many in (-1, 4, None, True, "1", ONE):
            self.no(("comes back", TRIO, (0, 0, 0), many), paper)
        self.no(("comes back", TRIO, (1, 0, 0), 1), paper)
        self.yes(("comes back", SHY, (0,), 1), (((0,), 0), ((1,), 1)))
        self.no(("comes back", SHY, (0,), False), (((0,), 0), ((1,), 1)))

    def test_may_go_away(self):
        claim = ("may go away", TRIO, (0, 0, 0), 2)
        self.yes(claim, ((1, 1, 0), (1, 1, 1)), ((0, 1, 1), (1, 1, 1)))
        self.no(claim, ((1, 1, 0),), ((1, 1, 1),), ((1, 0, 0), (1, 1, 0), (1, 1, 1)), ((0, 0, 0),), (), None,
                ((1, 1, 0), (0, 1, 0), (0, 0, 0)), [(1, 1, 0), (1, 1, 1)], ((1, 1, 0), (1, 1, 1), (1, 1, 1)),
                ((1, 1, 0), (0, 1, 1), (1, 1, 1)), ((1, 1, 1), (1, 1, 0)), ((1, 1, 0), [1, 1, 1]), (2, 0),
                ((1, 1, False), (1, 1, 1)))
        # One state alone, if it is another rest.
        self.yes(("may go away", TRIO, (0, 0, 0), 3), ((1, 1, 1),), ((1, 1, 0), (1, 1, 1)))
        self.no(("may go away", TRIO, (0, 0, 0), 3), ((0, 0, 0),), ((1, 0, 0), (0, 0, 0)))
        self.no(("may go away", TRIO, (0, 0, 0), 1), ((1, 1, 0), (1, 1, 1)), ((1, 1, 1),), ((1, 0, 0), (0, 0, 0)))
        self.no(("may go away", TRIO, (0, 0, 0), 4), ((1, 1, 1),))
        self.no(("may go away", TRIO, (1, 1, 0), 3), ((1, 1, 1),))

    def test_a_row_away_to_a_state_at_which_it_was(self):
        picture = (1, 0, 1)
        claim = ("may go away", CAUGHT, picture, 1)
        around = ((0, 0, 0), (0, 1, 0), (1, 1, 0), (1, 0, 0), (0, 0, 0))
        # From a near state on, once around, twice, and on to any state at which it was.
        self.yes(("may go away", CAUGHT, picture, 2), around, around + around[1:], around + around[1:3])
        self.yes(claim, around[3:] + around[1:4], around[3:] + around[1:] + around[1:4])
        self.no(claim, around, around[3:] + around[1:3], around[3:], around[3:] + around[1:2] + around[3:4])
        for state in states_of(3):
            if on_a_round(CAUGHT, state):
                self.no(claim, (state,))

    def test_both_sides(self):
        for net in NETS:
            for picture in rests_by_all(net):
                for many in range(len(picture) + 1):
                    claim, paper = certs.certify_coming(net, picture, many)
                    self.yes(claim, paper)
                    other = "may go away" if claim[0] == "comes back" else "comes back"
                    self.no((other,) + claim[1:], paper)


class Lights(Checker):
    def test_lights(self):
        claim = ("lights", PALS, (0,))
        self.yes(claim, (1,))
        self.no(claim, (), (0,), (1, 1), (0, 1), [1], (True,), 1, (1, 2), (-1,), None, ((1,),))
        self.yes(("lights", PALS, (0, 1)), ())
        self.no(("lights", PALS, ()), (0, 1), (1, 0), ())
        self.no(("lights", PALS, (1, 0)), ())
        self.no(("lights", CHASE, (0, 1)), ())
        ladder = net_from([[0, 0, 0], [1, 0, 0], [1, 1, 0]], [0, "1/2", "3/2"])
        self.yes(("lights", ladder, (0,)), (1, 2))
        self.no(("lights", ladder, (0,)), (2, 1), (1,), (1, 2, 2), (0, 1, 2))

    def test_lights_not(self):
        self.yes(("lights not", PALS, ()), (0, 1))
        self.no(("lights not", PALS, ()), (), (0,), (1,), (1, 0), [0, 1], (0, 1, 2), (False, True), None)
        self.no(("lights not", PALS, (0,)), (0, 1), (1,))
        self.yes(("lights not", quiet(2), (0,)), (1,))
        self.no(("lights not", quiet(2), (0,)), (0, 1), (0,))
        self.no(("lights not", CHASE, ()), (0,), (1,), (0, 1))

    def test_all_seeds_and_all_lots(self):
        rng = random.Random(188)
        for _ in range(12):
            net = random_helping(rng, rng.randint(1, 4))
            lots = all_lots(len(net[1]))
            for seeds in lots:
                for lot in lots:
                    due = lot != () and is_stubborn_by_all(net, lot) and not set(lot) & set(seeds)
                    self.assertIs(accepts(("lights not", net, seeds), lot), due)
                    if due:
                        self.assertFalse(lights_by_all(net, seeds))

    def test_fewest(self):
        both = (0, 1)
        self.yes(("fewest", PALS, 1), ((0,), (both,)), ((1,), (both,)), ((0,), (both, both)))
        self.no(("fewest", PALS, 1), ((0,), ()), ((), (both,)), (both, (both,)), ((0,), ((0,),)), ((0,), ((1, 0),)),
                ((0,), (both, (0,))), ((0,), [both]), ([0], (both,)), [(0,), (both,)], ((0,),), ((0,), (both,), ()),
                ((0,), both), ((0,), ((),)), ((2,), (both,)), ((True,), (both,)))
        # Both light all, but one does as well.
        self.no(("fewest", PALS, 2), (both, (both,)))
        self.no(("fewest", PALS, 0), ((), (both,)), ((), ()))
        for told in (-1, True, None, "1", ONE):
            self.no(("fewest", PALS, told), ((0,), (both,)))
        lone = quiet(3)
        least = ((0,), (1,), (2,))
        # Stubborn lots in any order, one also more than once, not only the least ones.
        self.yes(("fewest", lone, 3), ((0, 1, 2), least), ((0, 1, 2), least[::-1]), ((0, 1, 2), least + least),
                 ((0, 1, 2), least + ((0, 1, 2), (1, 2))), ((0, 1, 2), least * 40))
        # Lots of which some lot of fewer cells meets all.
        self.no(("fewest", lone, 3), ((0, 1, 2), least[:2]), ((0, 1, 2), ((0, 1), (1, 2), (0, 2))),
                ((0, 1, 2), ((0, 1, 2),)))
        self.no(("fewest", lone, 2), ((0, 1), least), ((0, 1), least[:2]))
        bold = net_from([[0, 1], [0, 0]], ["1/2", "-1/2"])
        self.yes(("fewest", bold, 0), ((), ()))
        self.no(("fewest", bold, 0), ((), ((0,),)), ((), ((),)))
        self.no(("fewest", bold, 1), ((0,), ()), ((1,), ()))
        self.no(("fewest", CHASE, 0), ((), ()))


class Changes(Checker):
    def test_changes(self):
        rng = random.Random(189)
        for net in NETS:
            for _ in range(4):
                deed = random_deed(rng, net)
                after = behind(net, deed)
                self.yes(("change", net, deed, after), ())
                self.no(("change", net, deed, after), after, None, ((),), [])
                self.no(("no change", net, deed), ())
                for wrong in (quiet(len(after[1])), list(after), None, after[::-1], after + ((),)):
                    if wrong != after:
                        self.no(("change", net, deed, wrong), ())
                self.no(("change", net, list(deed), after), ())
        self.no(("change", PALS, ("mark", 0, (True, 1)), behind(PALS, ("mark", 0, ONE))), ())
        self.no(("change", PALS, ("mark", 0, ONE), (((NIL, ONE), (ONE, NIL)), ((True, 1), HALF))), ())

    def test_what_is_no_deed(self):
        for many in (1, 2, 8):
            net = quiet(many)
            for value in wrong_deeds(many) + list(ODD):
                self.assertIs(accepts(("no change", net, value), ()), True, value)
                self.assertIs(accepts(("no change", net, value), ((),)), False)
                self.assertIs(accepts(("change", net, value, net), ()), False)
            self.assertIs(accepts(("no change", net, ("turn", ())), ()), False)

    def test_turned_to(self):
        for net in NETS:
            for state in states_of(len(net[1])):
                lot = tuple(cell for cell, on in enumerate(state) if on)
                claim = ("turned to", net, turned(net, lot), state)
                self.yes(claim, lot)
                self.no(claim, list(lot), lot + (0,), lot[1:] if lot else (0,), None, lot + lot[-1:] if lot else ((),))
                for other in states_of(len(net[1])):
                    if other != state:
                        self.no(claim[:3] + (other,), lot)
                self.no(("turned to", net, quiet(8), state), lot)
        self.no(("turned to", PALS, turned(PALS, (0, 1)), (1, 1)), (1, 0), (True, 0), (0, True))

    def test_texts(self):
        text = "board 1 2\ncell 0 1 1/2\ncell 1 0 1/2\npicture left\n#.\n"
        album = ((1, 2), PALS, (("left", (1, 0)),))
        self.yes(("read", text, album), ())
        self.no(("read", text, album), text, album, None, ((),))
        self.no(("read", text[:-1], album), ())
        for wrong in (((2, 1), PALS, album[2]), ((1, 2), LAME, album[2]), ((1, 2), PALS, ()), list(album), None, (),
                      ((True, 2), PALS, album[2]), ((1, 2), PALS, (("left", (True, 0)),)), album + ((),)):
            self.no(("read", text, wrong), ())
        self.no(("read", text.encode(), album), ())
        for line in range(-1, 7):
            self.no(("not read", text, line), ())
            self.assertIs(accepts(("not read", text[:-1], line), ()), line == 4)
            self.assertIs(accepts(("not read", "", line), ()), line == 0)
        for line in (False, None, "0", (0,), [0]):
            self.no(("not read", "", line), ())
        for told in (None, b"", 0, (), [""]):
            self.no(("not read", told, None), ())
            self.no(("not read", told, 0), ())


class Great(Checker):
    def test_eight_cells(self):
        rng = random.Random(190)
        net = net_from([[0 if i == j else rng.randint(-2, 2) for j in range(8)] for i in range(8)],
                       [rng.randint(-3, 3) for _ in range(8)])
        for state in rng.sample(states_of(8), 4):
            for call in (certs.certify_sure, certs.certify_ends, certs.certify_chances):
                claim, paper = call(net, state)
                self.assertIs(accepts(claim, paper), True)
                self.assertIs(accepts(claim, paper[:-1]), False)
                self.assertIs(accepts(claim[:2] + (flipped(state, 0),) + claim[3:], paper[:-1]), False)
        self.assertIs(accepts(("nexts", net, next_states(net)), ()), True)

    def test_numbers_above_64_bits(self):
        great = 2 ** 200
        net = net_from([[0, great], [great, 0]], [great // 2, Fraction(great, 3)])
        self.yes(("always ends", net), (0, great, great, 0), (great, great + 1, great ** 2, 0))
        self.no(("always ends", net), (0, 0, great, 0))
        self.yes(("scales", net), ((great, 1), (great, 1)), ((1, great), (1, great)))
        self.no(("scales", net), ((great, 1), (great + 1, 1)))
        self.yes(("ends within", net, most_by_energy(net)), (ONE, ONE))

    def test_of_two_claims_that_exclude_one_another_no_papers_are_accepted_for_both(self):
        papers = [paper for _, paper in CLAIMS]
        rng = random.Random(191)
        for net in NETS:
            for state in states_of(len(net[1])):
                is_open = is_open_by_all(net, state)
                other = rng.choice(states_of(len(net[1])))
                rest = (ends_by_all(net, state) + [state])[0]
                for word, wrong in ((("open", net, state), not is_open), (("sure", net, state, rest), is_open),
                                    (("leads", net, state, other), other not in reach(net, state)),
                                    (("leads not", net, state, other), other in reach(net, state))):
                    if wrong:
                        for paper in rng.sample(papers, 12):
                            self.assertIs(accepts(word, paper), False)
                self.assertEqual(leads(net, state) == [], accepts(("rest", net, state), ()))


if __name__ == "__main__":
    unittest.main()
