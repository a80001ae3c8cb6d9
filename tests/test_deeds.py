"""Points [27], [28] and [29]."""
import random
import unittest
from fractions import Fraction

from heednets.deeds import behind, fits, leaves, led, next_states, turned
from heednets.errors import InvalidDeed, InvalidLot, InvalidNet, InvalidState
from heednets.heights import heights_or_round
from heednets.keeping import does_keep
from heednets.nets import is_net, rests
from heednets.scales import are_scales, is_even, scales_or_against, speaks_against
from tests.helper import (BOLD, CHASE, HALF, LAME, LESS, NIL, ONE, PALS, SHY, STRANGE, TURN, TWO, WHEEL, Alike, Touchy,
                          assert_refused, assert_signature, flipped, hears, lifted_by_all, net_from, number, pair,
                          quiet,
                          random_net, random_scaled, sample_nets, states_of, wants, wrong_lots, wrong_nets,
                          wrong_states)
from tests.second import (behind_by_all, deed_nets, leaves_by_all, led_by_all, nexts_by_all, number_by_all,
                          random_deed, turned_by_all, wrong_deeds)

NAMED = (SHY, BOLD, PALS, CHASE, LAME, TURN, WHEEL)
KINDS = ("weight", "mark", "cell", "strike", "order", "turn")
# Deeds that fit, but for the fact that they stand in a list or the like.
FITTING = (("weight", 0, 1, ONE), ("weight", 1, 0, NIL), ("mark", 0, LESS), ("cell", (ONE, NIL), (NIL, TWO), HALF),
           ("strike", 0), ("strike", 1), ("order", (0, 1)), ("order", (1, 0)), ("turn", ()), ("turn", (0,)),
           ("turn", (0, 1)))


def sample_deeds(seed, times, most=4):
    """Pairs of a net and a deed that fits."""
    rng = random.Random(seed)
    found = [(net, random_deed(rng, net)) for net in NAMED for _ in range(6)]
    found += [(net, random_deed(rng, net)) for net in deed_nets(seed, times, most) for _ in range(3)]
    for many in (1, 7, 8):
        for _ in range(4):
            net = random_net(rng, many)
            found.append((net, random_deed(rng, net)))
    return found


def each_kind(rng, net):
    """A deed of each kind that fits the net."""
    found = {}
    for _ in range(200):
        deed = random_deed(rng, net)
        found.setdefault(deed[0], deed)
    return list(found.values())


class Fits(unittest.TestCase):
    def test_deeds(self):
        for deed in FITTING:
            self.assertIs(fits(PALS, deed), True)
            self.assertIs(fits(net=PALS, value=deed), True)
        kinds = set()
        for net, deed in sample_deeds(100, 40):
            self.assertIs(fits(net, deed), True, deed)
            kinds.add((deed[0], len(net[1])))
        self.assertEqual({kind for kind, _ in kinds}, set(KINDS))

    def test_deeds_of_each_kind_on_one_seven_and_eight_cells(self):
        rng = random.Random(101)
        for many, missing in ((1, ["weight", "strike"]), (7, []), (8, ["cell"])):
            net = random_net(rng, many)
            deeds = each_kind(rng, net)
            self.assertEqual(sorted(deed[0] for deed in deeds), sorted(set(KINDS) - set(missing)))
            for deed in deeds:
                self.assertEqual(len(behind(net, deed)[1]), many + {"cell": 1, "strike": -1}.get(deed[0], 0))

    def test_values_that_are_none(self):
        for many in (1, 2, 3, 7, 8):
            net = quiet(many)
            for value in wrong_deeds(many):
                self.assertIs(fits(net, value), False, value)
                self.assertIs(fits(net=net, value=value), False)

    def test_each_element_left_out_doubled_or_changed(self):
        for deed in FITTING:
            for at in range(len(deed)):
                wrong = [deed[:at] + deed[at + 1:], deed[:at] + deed[at:at + 1] + deed[at:]]
                wrong += [deed[:at] + (value,) + deed[at + 1:] for value in STRANGE + (Alike(), Touchy())
                          if not (isinstance(value, tuple) and value == ())]
                for value in wrong + [list(deed)]:
                    self.assertIs(fits(PALS, value), False, value)

    def test_numbers_of_many_figures(self):
        great = (10 ** 399 + 1, 10 ** 398)
        self.assertIs(fits(PALS, ("mark", 0, great)), True)
        self.assertIs(fits(PALS, ("mark", 0, (2 * great[0], 2 * great[1]))), False)
        self.assertEqual(behind(PALS, ("weight", 1, 0, great)), (((NIL, ONE), (great, NIL)), (HALF, HALF)))


class Behind(unittest.TestCase):
    def test_by_the_words(self):
        for net, deed in sample_deeds(102, 60):
            found = behind(net, deed)
            self.assertEqual(repr(found), repr(behind_by_all(net, deed)))
            self.assertEqual(behind(net=net, deed=deed), found)
            self.assertIs(is_net(found), True)

    def test_states_led_along(self):
        for net, deed in sample_deeds(103, 40):
            for state in states_of(len(net[1]))[::3]:
                found = led(net, deed, state)
                self.assertEqual(repr(found), repr(led_by_all(deed, state)))
                self.assertEqual(led(net=net, deed=deed, state=state), found)

    def test_known_nets(self):
        self.assertEqual(behind(PALS, ("order", (1, 0))), PALS)
        self.assertEqual(behind(LAME, ("order", (1, 0))), (((NIL, ONE), (TWO, NIL)), (HALF, HALF)))
        # Cell 0 is then what 2 was, 1 what 0 was.
        self.assertEqual(behind(WHEEL, ("order", (2, 0, 1))),
                         (((NIL, NIL, ONE), (LESS, NIL, NIL), (NIL, ONE, NIL)), (HALF, (-1, 2), HALF)))
        self.assertEqual(led(WHEEL, ("order", (2, 0, 1)), (1, 0, 0)), (0, 1, 0))
        self.assertEqual(behind(WHEEL, ("strike", 1)), (((NIL, LESS), (NIL, NIL)), ((-1, 2), HALF)))
        self.assertEqual(led(WHEEL, ("strike", 1), (1, 0, 0)), (1, 0))
        self.assertEqual(behind(SHY, ("cell", (TWO,), (LESS,), NIL)), (((NIL, LESS), (TWO, NIL)), (HALF, NIL)))
        self.assertEqual(led(SHY, ("cell", (TWO,), (LESS,), NIL), (1,)), (1, 0))

    def test_a_deed_that_changes_nothing(self):
        for net in NAMED + (quiet(8),):
            many = len(net[1])
            same = [("turn", ()), ("order", tuple(range(many))), ("mark", many - 1, net[1][many - 1])]
            if many > 1:
                same.append(("weight", 0, many - 1, net[0][0][many - 1]))
            for deed in same:
                self.assertEqual(behind(net, deed), net)
                self.assertEqual(leaves(net, deed), tuple(range(2 ** many)))

    def test_there_and_back(self):
        rng = random.Random(104)
        for net in deed_nets(105, 20):
            many = len(net[1])
            order = rng.sample(range(many), many)
            back = tuple(order.index(cell) for cell in range(many))
            self.assertEqual(behind(behind(net, ("order", tuple(order))), ("order", back)), net)
            grown = behind(net, ("cell", (ONE,) * many, (TWO,) * many, HALF))
            self.assertEqual(behind(grown, ("strike", many)), net)


class Turned(unittest.TestCase):
    def test_by_the_words(self):
        rng = random.Random(106)
        for net in list(NAMED) + deed_nets(107, 40) + [random_net(rng, 8)]:
            many = len(net[1])
            for lot in ((), tuple(range(many)), (many - 1,), tuple(sorted(rng.sample(range(many), many // 2)))):
                found = turned(net, lot)
                self.assertEqual(repr(found), repr(turned_by_all(net, lot)))
                self.assertEqual(turned(net=net, lot=lot), found)
                self.assertEqual(behind(net, ("turn", lot)), found)

    def check_wants(self, net, lot):
        """What cells want in the turned net is what they wanted, other for cells of the lot."""
        after = turned(net, lot)
        for state in states_of(len(net[1])):
            was, now = wants(net, state), wants(after, led_by_all(("turn", lot), state))
            self.assertEqual(now, led_by_all(("turn", lot), was))

    def test_wants_lead_along(self):
        for net in list(NAMED) + deed_nets(108, 25):
            many = len(net[1])
            for state in states_of(many):
                self.check_wants(net, tuple(cell for cell in range(many) if state[cell]))

    def test_heard_that_just_meets_the_mark(self):
        # Cell 0 hears its mark while cell 1 is on, and wants off then: turned it is to want on.
        net = net_from([[0, 1], [1, 0]], [1, 0])
        for lot in ((0,), (1,), (0, 1)):
            self.check_wants(net, lot)
        # A cell that never wants on has no spare: its lifted mark is 1 more.
        self.assertEqual(turned(SHY, (0,)), (((NIL,),), ((-3, 2),)))
        self.assertEqual(turned(BOLD, (0,)), (((NIL,),), ((1, 4),)))

    def test_twice_at_one_lot(self):
        for net in list(NAMED) + deed_nets(109, 25):
            many = len(net[1])
            for lot in ((0,), (many - 1,), tuple(range(many))):
                again = turned(turned(net, lot), lot)
                self.assertEqual(nexts_by_all(again), nexts_by_all(net))
                self.assertEqual(again[0], net[0])

    def test_scales_and_what_speaks_against_them_stay(self):
        rng = random.Random(110)
        for net in list(NAMED) + deed_nets(111, 25):
            many = len(net[1])
            lot = tuple(sorted(rng.sample(range(many), rng.randint(1, many))))
            after = turned(net, lot)
            self.assertEqual(is_even(after), is_even(net))
            word, told = scales_or_against(net)
            if word == "scales":
                self.assertIs(are_scales(after, told), True)
            else:
                self.assertIs(speaks_against(after, (word, told)), True)

    def test_heights_lead_along(self):
        for net in list(NAMED) + deed_nets(112, 15):
            many = len(net[1])
            lot = tuple(range(0, many, 2))
            word, told = heights_or_round(net)
            after = heights_or_round(turned(net, lot))
            self.assertEqual(after[0], word)
            if word == "heights":
                for at, state in enumerate(states_of(many)):
                    self.assertEqual(after[1][number_by_all(led_by_all(("turn", lot), state))], told[at])

    def test_a_state_is_kept_exactly_if_turned_to_the_dark_one_no_lifted_mark_is_below_0(self):
        kept = {True: 0, False: 0}
        for net in list(NAMED) + deed_nets(113, 25):
            for state in states_of(len(net[1])):
                lot = tuple(cell for cell, on in enumerate(state) if on)
                self.assertEqual(set(led(net, ("turn", lot), state)), {0})
                is_kept = does_keep(net, (state,))
                self.assertEqual(is_kept, min(lifted_by_all(turned(net, lot))) >= 0)
                kept[is_kept] += 1
        self.assertLess(30, min(kept.values()))

    def test_rests_lead_along(self):
        for net in list(NAMED) + deed_nets(114, 10):
            lot = (len(net[1]) - 1,)
            due = sorted((led_by_all(("turn", lot), rest) for rest in rests(net)), key=number_by_all)
            self.assertEqual(rests(turned(net, lot)), tuple(due))


class Leaves(unittest.TestCase):
    def test_by_the_words(self):
        some = 0
        for net, deed in sample_deeds(115, 60):
            found = leaves(net, deed)
            self.assertEqual(repr(found), repr(leaves_by_all(net, deed)), (net, deed))
            self.assertEqual(leaves(net=net, deed=deed), found)
            some += 0 < len(found) < 2 ** len(net[1])
        self.assertLess(40, some)

    def test_what_is_left_has_its_next_state_led_along(self):
        for net, deed in sample_deeds(116, 60):
            after = behind(net, deed)
            ahead = {}
            for state in states_of(len(net[1])):
                if deed[0] != "strike" or state[deed[1]] == 0:
                    ahead[led_by_all(deed, state)] = led_by_all(deed, wants(net, state))
            states = states_of(len(after[1]))
            for at in leaves(net, deed):
                self.assertEqual(wants(after, states[at]), ahead[states[at]], (net, deed))

    def test_a_cell_more_changes_no_want_of_others_while_it_is_off(self):
        for net in deed_nets(117, 20):
            many = len(net[1])
            deed = ("cell", (ONE,) * many, (TWO,) * many, HALF)
            after = behind(net, deed)
            self.assertEqual(leaves(net, deed), ())
            for state in states_of(many):
                self.assertEqual(wants(after, state + (0,))[:many], wants(net, state))

    def test_a_greater_and_a_lesser_number(self):
        # Cell 1 wants on where cell 0 is on.
        for deed, left in ((("weight", 1, 0, ONE), (0, 1, 2, 3)), (("weight", 1, 0, TWO), (0, 1, 2, 3)),
                           (("weight", 1, 0, HALF), (0, 2)), (("mark", 1, HALF), (0, 1, 2, 3)),
                           (("mark", 1, ONE), (0, 2)), (("mark", 1, (1, 3)), (1, 3)),
                           (("mark", 1, (-1, 2)), (1, 3)), (("weight", 1, 0, LESS), (0, 2))):
            self.assertEqual(leaves(PALS, deed), left, deed)
        # Numbers with unlike lower parts, below 0 and above.
        net = net_from([[0, "-2/3"], [0, 0]], [0, "-3/4"])
        self.assertEqual(leaves(net, ("weight", 0, 1, (-3, 5))), (0, 1))
        self.assertEqual(leaves(net, ("weight", 0, 1, (-5, 7))), (0, 1, 2, 3))
        self.assertEqual(leaves(net, ("mark", 1, (-5, 7))), ())
        self.assertEqual(leaves(net, ("mark", 1, (-4, 5))), (0, 1, 2, 3))

    def test_a_mark_that_is_just_what_the_cell_hears(self):
        # Off at the mark: as soon as the mark is what is heard, the cell wants off.
        net = net_from([[0, 1], [1, 0]], [0, 0])
        after = behind(net, ("mark", 0, ONE))
        self.assertEqual([wants(net, (0, 1))[0], wants(after, (0, 1))[0]], [1, 0])
        self.assertEqual(leaves(net, ("mark", 0, ONE)), (0, 1))
        for net in deed_nets(118, 15):
            for state in states_of(len(net[1])):
                deed = ("mark", 0, pair(hears(net, 0, state)))
                self.assertEqual(wants(behind(net, deed), state)[0], 0)
                self.assertEqual(leaves(net, deed), leaves_by_all(net, deed))


class NextStates(unittest.TestCase):
    def test_by_all_states(self):
        for net in sample_nets(119, 20) + [quiet(8), random_net(random.Random(120), 8)]:
            self.assertEqual(repr(next_states(net)), repr(nexts_by_all(net)))
            self.assertEqual(next_states(net=net), next_states(net))

    def test_they_lead_along_behind_an_order(self):
        rng = random.Random(121)
        for net in deed_nets(122, 15):
            many = len(net[1])
            deed = ("order", tuple(rng.sample(range(many), many)))
            after = next_states(behind(net, deed))
            for state, wish in zip(states_of(many), next_states(net)):
                self.assertEqual(after[number_by_all(led_by_all(deed, state))], led_by_all(deed, wish))


class Wrong(unittest.TestCase):
    def test_wrong_nets(self):
        for value in wrong_nets():
            assert_refused(self, InvalidNet, "given", value, next_states, (value,))
            for call in (fits, behind, leaves, turned):
                assert_refused(self, InvalidNet, "given", value, call, (value, None))
            assert_refused(self, InvalidNet, "given", value, led, (value, None, None))

    def test_wrong_deeds(self):
        for many in (1, 2, 3, 7, 8):
            net = quiet(many)
            for value in wrong_deeds(many):
                for call in (behind, leaves):
                    assert_refused(self, InvalidDeed, "given", value, call, (net, value))
                assert_refused(self, InvalidDeed, "given", value, led, (net, value, None))

    def test_wrong_states(self):
        for net in (SHY, PALS, WHEEL, quiet(8)):
            many = len(net[1])
            for deed in (("turn", ()), ("mark", 0, ONE), ("order", tuple(range(many)))):
                for value in wrong_states(many):
                    assert_refused(self, InvalidState, "given", value, led, (net, deed, value))
        # The state is one of the net ahead.
        for deed in (("cell", (ONE, ONE), (ONE, ONE), HALF), ("strike", 0)):
            for value in ((0,), (0, 0, 0)):
                assert_refused(self, InvalidState, "given", value, led, (PALS, deed, value))

    def test_wrong_lots(self):
        for net in (SHY, PALS, WHEEL, quiet(8)):
            for value, index in wrong_lots(len(net[1])):
                assert_refused(self, InvalidLot, "index", index, turned, (net, value))

    def test_parameters_have_the_names_of_the_document(self):
        for call, names in ((fits, "net value"), (behind, "net deed"), (led, "net deed state"),
                            (leaves, "net deed"), (turned, "net lot"), (next_states, "net")):
            assert_signature(self, call, names)


class Words(unittest.TestCase):
    def test_a_turned_cell_hears_less_its_mark_with_the_other_sign(self):
        rng = random.Random(123)
        for _ in range(20):
            net = random_scaled(rng, rng.randint(2, 4))
            marks = lifted_by_all(net)
            after = turned(net, (0,))
            for state in states_of(len(net[1])):
                there = flipped(state, 0)
                self.assertEqual(hears(after, 0, there) - number(after[1][0]), marks[0] - hears(net, 0, state))
                for cell in range(1, len(state)):
                    self.assertEqual(hears(after, cell, there) - number(after[1][cell]),
                                     hears(net, cell, state) - Fraction(*net[1][cell]))


if __name__ == "__main__":
    unittest.main()
