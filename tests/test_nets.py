"""Points [6], [7] and what [16] says of all nets."""
import unittest
from fractions import Fraction

from heednets.errors import InvalidCell, InvalidNet, InvalidNumber, InvalidState
from heednets.nets import (heard, is_net, is_rest, is_state, moved, movers, number_of, rests, state_of, wanted)
from tests.helper import (BOLD, CHASE, HALF, NIL, ONE, PALS, SHY, STRANGE, WHEEL, Alike, Touchy, assert_refused,
                          assert_signature, deep, flipped, hears, net_from, pair, quiet, sample_nets, states_of,
                          wants, wrong_cells, wrong_nets, wrong_states)

NETS = sample_nets(6, 40)


class IsNet(unittest.TestCase):
    def test_nets_of_one_to_eight_cells(self):
        for many in range(1, 9):
            self.assertIs(is_net(quiet(many)), True)
        self.assertIs(is_net(quiet(9)), False)
        self.assertIs(is_net(quiet(10)), False)
        for net in NETS:
            self.assertIs(is_net(net), True)

    def test_values_that_are_no_nets(self):
        for value in wrong_nets():
            self.assertIs(is_net(value), False, value)
            self.assertIs(is_net(value=value), False)

    def test_each_weight_of_a_cell_for_itself_is_nought(self):
        rows = [list(row) for row in quiet(3)[0]]
        for cell in range(3):
            heeds = [list(row) for row in rows]
            heeds[cell][cell] = HALF
            self.assertIs(is_net((tuple(map(tuple, heeds)), quiet(3)[1])), False)

    def test_fractions_of_many_figures(self):
        great = 10 ** 399 + 1
        self.assertIs(is_net((((NIL, (great, great + 1)), ((-great, 3), NIL)), ((1, great), NIL))), True)
        self.assertIs(is_net((((NIL, (2 * great, 4)), (ONE, NIL)), (HALF, HALF))), False)

    def test_values_that_only_seem_to_be_alike(self):
        for value in (Alike(), Touchy()):
            for net in (value, (value, value), ((value,), (HALF,)), (((value,),), (HALF,)), (((NIL,),), (value,)),
                        ((((value, 1),),), (HALF,)), (((NIL,),), ((1, value),))):
                self.assertIs(is_net(net), False)
            self.assertIs(is_state(PALS, (0, value)), False)
            with self.assertRaises(InvalidNumber) as caught:
                state_of(PALS, value)
            self.assertIs(caught.exception.given, value)
            with self.assertRaises(InvalidCell) as caught:
                moved(PALS, (1, 0), value)
            self.assertIs(caught.exception.given, value)

    def test_a_net_is_told_once_more(self):
        self.assertEqual(is_net(PALS), is_net(PALS))


class States(unittest.TestCase):
    def test_is_state(self):
        for net in NETS:
            many = len(net[1])
            for other in range(1, 6):
                for state in states_of(other):
                    self.assertIs(is_state(net, state), many == other)
            for value in wrong_states(many):
                self.assertIs(is_state(net, value), False, value)

    def test_numbers_and_states(self):
        for many in range(1, 9):
            net = quiet(many)
            for number, state in enumerate(states_of(many)):
                self.assertEqual(number_of(net, state), number)
                self.assertEqual(number, sum(2 ** i for i in range(many) if state[i] == 1))
                self.assertEqual(repr(state_of(net, number)), repr(state))

    def test_wrong_numbers(self):
        for net in (SHY, PALS, quiet(8)):
            most = 2 ** len(net[1])
            for wrong in (-1, most, most + 1, -most, "0", (0,), [0]) + STRANGE:
                assert_refused(self, InvalidNumber, "given", wrong, state_of, (net, wrong))

    def test_wrong_nets_and_states(self):
        calls = [(is_state, (None,)), (number_of, ((2, 2),)), (state_of, (True,)), (heard, (9, None)),
                 (wanted, (None,)), (movers, ("",)), (moved, (None, None)), (is_rest, ([],)), (rests, ()), ]
        for call, others in calls:
            for value in wrong_nets():
                assert_refused(self, InvalidNet, "given", value, call, (value,) + others)

    def test_wrong_states(self):
        for net in (SHY, PALS, WHEEL, quiet(8)):
            for value in wrong_states(len(net[1])):
                for call in (number_of, wanted, movers, is_rest):
                    assert_refused(self, InvalidState, "given", value, call, (net, value))
                assert_refused(self, InvalidState, "given", value, moved, (net, value, None))
                assert_refused(self, InvalidState, "given", value, heard, (net, 0, value))

    def test_wrong_cells(self):
        for net in (SHY, PALS, WHEEL):
            many = len(net[1])
            state = (0,) * many
            for value in wrong_cells(many):
                assert_refused(self, InvalidCell, "given", value, heard, (net, value, None))
                assert_refused(self, InvalidCell, "given", value, heard, (net, value, state))
                assert_refused(self, InvalidCell, "given", value, moved, (net, state, value))

    def test_values_nested_sixty_deep_are_refused_and_kept(self):
        value = deep(60)
        assert_refused(self, InvalidNet, "given", value, rests, (value,))
        assert_refused(self, InvalidState, "given", value, movers, (PALS, value))
        assert_refused(self, InvalidCell, "given", value, heard, (PALS, value, (0, 0)))
        assert_refused(self, InvalidNumber, "given", value, state_of, (PALS, value))

    def test_parameters_have_the_names_of_the_document(self):
        for call, names in ((is_net, "value"), (is_state, "net value"), (number_of, "net state"),
                            (state_of, "net number"), (heard, "net cell state"), (wanted, "net state"),
                            (movers, "net state"), (moved, "net state cell"), (is_rest, "net state"),
                            (rests, "net")):
            assert_signature(self, call, names)


class Wants(unittest.TestCase):
    def test_heard_wanted_and_movers_as_reckoned_plainly(self):
        for net in NETS:
            many = len(net[1])
            for state in states_of(many):
                for cell in range(many):
                    self.assertEqual(repr(heard(net, cell, state)), repr(pair(hears(net, cell, state))))
                wish = wants(net, state)
                self.assertEqual(repr(wanted(net, state)), repr(wish))
                due = tuple(cell for cell in range(many) if wish[cell] != state[cell])
                self.assertEqual(repr(movers(net, state)), repr(due))
                self.assertIs(is_rest(net, state), due == ())

    def test_moves_change_the_mover_and_nothing_else(self):
        for net in NETS:
            many = len(net[1])
            for state in states_of(many):
                wish = wants(net, state)
                for cell in range(many):
                    if wish[cell] == state[cell]:
                        assert_refused(self, InvalidCell, "given", cell, moved, (net, state, cell))
                    else:
                        behind = moved(net=net, state=state, cell=cell)
                        self.assertEqual(repr(behind), repr(flipped(state, cell)))
                        self.assertEqual(behind[cell], wanted(net, behind)[cell])

    def test_sums_that_just_meet_the_mark_do_not_want_on(self):
        net = net_from([[0, Fraction(1, 3), Fraction(1, 6)], [0, 0, 0], [0, 0, 0]], [Fraction(1, 2), -1, -1])
        self.assertEqual(heard(net, 0, (0, 1, 1)), (1, 2))
        self.assertEqual(wanted(net, (0, 1, 1)), (0, 1, 1))
        above = net_from([[0, Fraction(1, 3), Fraction(1, 6)], [0, 0, 0], [0, 0, 0]], [Fraction(499, 1000), -1, -1])
        self.assertEqual(wanted(above, (0, 1, 1)), (1, 1, 1))
        self.assertEqual(wanted(quiet(2), (1, 1)), (0, 0))

    def test_one_cell_alone(self):
        self.assertEqual([rests(SHY), rests(BOLD)], [((0,),), ((1,),)])
        self.assertEqual([movers(SHY, (1,)), movers(SHY, (0,)), movers(BOLD, (0,))], [(0,), (), (0,)])
        self.assertEqual(moved(BOLD, (0,), 0), (1,))
        self.assertEqual(heard(BOLD, 0, (1,)), (0, 1))

    def test_eight_cells(self):
        net = net_from([[0 if i == j else (-1) ** (i + j) for j in range(8)] for i in range(8)], [Fraction(1, 2)] * 8)
        for state in states_of(8)[::7]:
            self.assertEqual(wanted(net, state), wants(net, state))
        self.assertEqual(rests(net), tuple(state for state in states_of(8) if wants(net, state) == state))

    def test_numbers_of_many_figures(self):
        great = 10 ** 399 + 7
        net = net_from([[0, great, -great], [Fraction(1, great), 0, Fraction(1, great + 2)], [0, 0, 0]],
                       [0, Fraction(1, great), -great])
        for state in states_of(3):
            self.assertEqual(wanted(net, state), wants(net, state))
            for cell in range(3):
                self.assertEqual(heard(net, cell, state), pair(hears(net, cell, state)))


class Rests(unittest.TestCase):
    def test_rests_as_reckoned_plainly(self):
        for net in NETS:
            due = tuple(state for state in states_of(len(net[1])) if wants(net, state) == state)
            self.assertEqual(repr(rests(net)), repr(due))
            self.assertEqual(rests(net), rests(net=net))
        self.assertEqual(rests(CHASE), ())

    def test_no_two_rests_differ_in_just_one_cell(self):
        for net in NETS:
            found = rests(net)
            self.assertLessEqual(len(found), 2 ** (len(net[1]) - 1))
            for one in found:
                for other in found:
                    self.assertNotEqual(sum(a != b for a, b in zip(one, other)), 1)


if __name__ == "__main__":
    unittest.main()
