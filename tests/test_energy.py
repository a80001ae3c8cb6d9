"""Point [10], and what [16] says of nets with scales."""
import unittest
from fractions import Fraction

from heednets.energy import drop, energy, lifted, most_by_energy, spare
from heednets.errors import InvalidCell, InvalidNet, InvalidState, NotScaled
from heednets.heights import heights_or_round, most_moves
from heednets.nets import is_net, rests, wanted
from tests.helper import (BOLD, CHASE, HALF, LAME, NIL, ONE, PALS, SHY, TURN, TWO, WHEEL, assert_refused,
                          assert_signature, drop_by_all, energy_by_all, flipped, hears, leads, lifted_by_all,
                          net_from, number, pair, quiet, sample_nets, scales_of, spare_by_all, states_of,
                          steps_by_all, wants, wrong_cells, wrong_nets, wrong_states)

NETS = sample_nets(12, 40, most=4)
SCALED = [net for net in NETS if scales_of(net) is not None]
UNSCALED = [net for net in NETS if scales_of(net) is None]


class Lifted(unittest.TestCase):
    def test_spares_as_reckoned_plainly(self):
        for net in NETS:
            for cell in range(len(net[1])):
                due = spare_by_all(net, cell)
                self.assertEqual(repr(spare(net, cell)), repr(None if due is None else pair(due)))

    def test_lifted_marks_as_reckoned_plainly(self):
        for net in NETS:
            self.assertEqual(repr(lifted(net)), repr((net[0], tuple(map(pair, lifted_by_all(net))))))
            self.assertIs(is_net(lifted(net)), True)

    def test_wants_stay_and_heard_is_a_step_away(self):
        for net in NETS:
            above = lifted(net)
            steps = steps_by_all(net)
            for state in states_of(len(net[1])):
                self.assertEqual(wanted(above, state), wanted(net, state))
                for cell in range(len(net[1])):
                    away = abs(hears(net, cell, state) - number(above[1][cell]))
                    self.assertGreaterEqual(away, steps[cell])

    def test_a_cell_that_is_never_on_has_no_spare(self):
        self.assertIsNone(spare(SHY, 0))
        self.assertEqual(lifted(SHY)[1], ((3, 2),))
        # What cell 0 hears just meets its mark, never more.
        net = net_from([[0, 1, 2], [0, 0, 0], [0, 0, 0]], [3, 0, -1])
        self.assertEqual([spare(net, cell) for cell in range(3)], [None, None, ONE])
        self.assertEqual(lifted(net)[1], ((4, 1), ONE, (-1, 2)))

    def test_the_spare_is_the_least_one_above_nought(self):
        net = net_from([[0, 1, "1/3"], [0, 0, 0], [0, 0, 0]], ["1/4", "-1/2", 0])
        self.assertEqual([spare(net, cell) for cell in range(3)], [(1, 12), HALF, None])
        self.assertEqual(lifted(net)[1], ((7, 24), (-1, 4), ONE))
        self.assertEqual(spare(BOLD, 0), HALF)

    def test_numbers_of_many_figures(self):
        great = 10 ** 399 + 7
        net = net_from([[0, great], [Fraction(1, great), 0]], [0, Fraction(1, great + 1)])
        self.assertEqual(spare(net, 0), (great, 1))
        self.assertEqual(spare(net, 1), (1, great * (great + 1)))
        self.assertEqual(lifted(lifted(net))[0], net[0])


class Energy(unittest.TestCase):
    def test_energies_and_drops_as_reckoned_plainly(self):
        self.assertLess(30, len(SCALED))
        for net in SCALED:
            scales = scales_of(net)
            energies = []
            for state in states_of(len(net[1])):
                energies.append(energy_by_all(net, scales, state))
                self.assertEqual(repr(energy(net, state)), repr(pair(energies[-1])))
            least = drop_by_all(net, scales)
            self.assertEqual(repr(drop(net)), repr(pair(least)))
            self.assertEqual(repr(most_by_energy(net)), repr((max(energies) - min(energies)) // least))

    def test_each_move_lowers_the_energy_as_told(self):
        for net in SCALED:
            scales, marks = scales_of(net), lifted_by_all(net)
            for state in states_of(len(net[1])):
                for behind in leads(net, state):
                    cell = [k for k in range(len(state)) if state[k] != behind[k]][0]
                    fall = number(energy(net, state)) - number(energy(net, behind))
                    self.assertEqual(fall, scales[cell] * abs(hears(net, cell, state) - marks[cell]))
                    self.assertGreaterEqual(fall, number(drop(net)))

    def test_the_one_by_one_sentence(self):
        for net in SCALED:
            self.assertEqual(heights_or_round(net)[0], "heights")
            most = max(most_moves(net, state) for state in states_of(len(net[1])))
            self.assertLessEqual(most, most_by_energy(net))

    def test_rests_are_where_each_neighbour_has_more(self):
        for net in SCALED:
            many = len(net[1])
            for state in states_of(many):
                least = all(number(energy(net, flipped(state, cell))) > number(energy(net, state))
                            for cell in range(many))
                self.assertEqual(least, wants(net, state) == state)
                self.assertEqual(least, state in rests(net))

    def test_one_cell_alone(self):
        self.assertEqual([energy(SHY, (0,)), energy(SHY, (1,)), drop(SHY), most_by_energy(SHY)], [NIL, (3, 2), ONE, 1])
        self.assertEqual([energy(BOLD, (0,)), energy(BOLD, (1,)), drop(BOLD), most_by_energy(BOLD)],
                         [NIL, (-1, 4), (1, 4), 1])

    def test_scales_that_are_not_one(self):
        self.assertEqual([energy(LAME, state) for state in states_of(2)], [NIL, (5, 4), (3, 2), (3, 4)])
        self.assertEqual([drop(LAME), most_by_energy(LAME)], [HALF, 3])

    def test_several_parts(self):
        net = net_from([[0, 0, 3], [0, 0, 0], [1, 0, 0]], [1, "-1/2", "1/2"])
        self.assertEqual(energy(net, (1, 1, 1)), pair(energy_by_all(net, [1, 1, 3], (1, 1, 1))))
        self.assertEqual(drop(net), (1, 4))

    def test_eight_cells(self):
        net = net_from([[0 if i == j else 1 for j in range(8)] for i in range(8)], ["7/2"] * 8)
        self.assertEqual([energy(net, (1,) * 8), energy(net, (1, 1, 0, 0, 0, 0, 0, 0))], [(2, 1), (13, 2)])
        self.assertEqual([drop(net), most_by_energy(net)], [(1, 4), 36])
        self.assertEqual(most_by_energy(quiet(8)), 8)

    def test_numbers_of_many_figures(self):
        great = 10 ** 399 + 7
        net = net_from([[0, great, 0], [1, 0, great + 1], [0, great - 1, 0]], [0, Fraction(1, great), great])
        scales = scales_of(net)
        for state in states_of(3):
            self.assertEqual(energy(net, state), pair(energy_by_all(net, scales, state)))
        self.assertEqual(drop(net), pair(drop_by_all(net, scales)))


class Wrong(unittest.TestCase):
    def test_nets_without_scales(self):
        self.assertLess(30, len(UNSCALED))
        for net in UNSCALED + [CHASE, TURN, WHEEL]:
            state = (0,) * len(net[1])
            assert_refused(self, NotScaled, None, None, energy, (net, state))
            assert_refused(self, NotScaled, None, None, drop, (net,))
            assert_refused(self, NotScaled, None, None, most_by_energy, (net,))
            self.assertEqual(len(lifted(net)[1]), len(state))

    def test_wrong_nets(self):
        for value in wrong_nets():
            assert_refused(self, InvalidNet, "given", value, spare, (value, None))
            assert_refused(self, InvalidNet, "given", value, lifted, (value,))
            assert_refused(self, InvalidNet, "given", value, energy, (value, None))
            assert_refused(self, InvalidNet, "given", value, drop, (value,))
            assert_refused(self, InvalidNet, "given", value, most_by_energy, (value,))

    def test_wrong_cells_and_states_come_ahead_of_missing_scales(self):
        for net in (SHY, PALS, CHASE, TURN):
            for value in wrong_cells(len(net[1])):
                assert_refused(self, InvalidCell, "given", value, spare, (net, value))
            for value in wrong_states(len(net[1])):
                assert_refused(self, InvalidState, "given", value, energy, (net, value))

    def test_parameters_have_the_names_of_the_document(self):
        for call, names in ((spare, "net cell"), (lifted, "net"), (energy, "net state"), (drop, "net"),
                            (most_by_energy, "net")):
            assert_signature(self, call, names)

    def test_equal_calls_return_equal_results(self):
        for net in SCALED[:10]:
            self.assertEqual([lifted(net), drop(net), most_by_energy(net)],
                             [lifted(net=net), drop(net=net), most_by_energy(net=net)])
        self.assertEqual(spare(net=LAME, cell=0), (3, 2))
        self.assertEqual(spare(PALS, 1), HALF)
        self.assertEqual(TWO, spare(net_from([[0, 2], [2, 0]], [0, 0]), 1))


if __name__ == "__main__":
    unittest.main()
