"""Point [17]."""
import unittest
from fractions import Fraction

from heednets.dice import end_chances, mean_moves
from heednets.ends import ends, is_sure
from heednets.errors import InvalidNet, InvalidState
from tests.helper import (BOLD, CAUGHT, CHASE, FREED, NIL, ONE, PALS, SHY, WHEEL, assert_refused, assert_signature,
                          leads, longest, net_from, number, on_a_round, pair, quiet, reach, rests_by_all, sample_nets,
                          states_of, wrong_nets, wrong_states)

NETS = sample_nets(30, 30, most=4) + [CAUGHT, FREED]


def steps_by_all(net, state):
    """Where it may stand behind no, one, two .. steps, with which chance, until all stand at rests."""
    told = [{state: Fraction(1)}]
    while any(leads(net, met) for met in told[-1]):
        now = {}
        for met, chance in told[-1].items():
            behinds = leads(net, met) or [met]
            for behind in behinds:
                now[behind] = now.get(behind, 0) + chance / len(behinds)
        told.append(now)
    return told


class Chances(unittest.TestCase):
    def test_step_by_step(self):
        told = 0
        for net in NETS:
            for state in states_of(len(net[1])):
                if any(on_a_round(net, met) for met in reach(net, state)):
                    self.assertIs(end_chances(net, state), None)
                    self.assertIs(mean_moves(net, state), None)
                    continue
                steps = steps_by_all(net, state)
                due = tuple((rest, pair(steps[-1][rest])) for rest in rests_by_all(net) if rest in steps[-1])
                self.assertEqual(repr(end_chances(net, state)), repr(due))
                # Each step is one move for as much of the chance as does not stand at a rest.
                mean = sum((chance for now in steps for met, chance in now.items() if leads(net, met)), Fraction(0))
                self.assertEqual(repr(mean_moves(net, state)), repr(pair(mean)))
                told += 1
        self.assertLess(200, told)

    def test_as_the_mean_behind_all_moves(self):
        for net in NETS:
            for state in states_of(len(net[1])):
                chances, behinds = end_chances(net, state), leads(net, state)
                if chances is None or not behinds:
                    continue
                means = [number(mean_moves(net, behind)) for behind in behinds]
                self.assertEqual(number(mean_moves(net, state)), 1 + sum(means) / len(means))
                for rest, chance in chances:
                    parts = [number(dict(end_chances(net, behind)).get(rest, NIL)) for behind in behinds]
                    self.assertEqual(number(chance), sum(parts) / len(parts))

    def test_chances_are_those_of_the_ends_and_have_the_sum_one(self):
        for net in NETS:
            for state in states_of(len(net[1])):
                chances = end_chances(net, state)
                if chances is None:
                    continue
                self.assertEqual(tuple(rest for rest, _ in chances), ends(net, state))
                self.assertEqual(sum(number(chance) for _, chance in chances), 1)
                self.assertTrue(all(number(chance) > 0 for _, chance in chances))
                self.assertEqual(is_sure(net, state), any(chance == ONE for _, chance in chances))
                self.assertLessEqual(number(mean_moves(net, state)), longest(net, state))

    def test_at_a_rest(self):
        for net in NETS:
            for rest in rests_by_all(net):
                self.assertEqual(end_chances(net=net, state=rest), ((rest, ONE),))
                self.assertEqual(mean_moves(net=net, state=rest), NIL)

    def test_known_ones(self):
        self.assertEqual([end_chances(SHY, (1,)), mean_moves(SHY, (1,))], [(((0,), ONE),), ONE])
        self.assertEqual([end_chances(BOLD, (0,)), mean_moves(BOLD, (0,))], [(((1,), ONE),), ONE])
        self.assertEqual([end_chances(quiet(8), (1,) * 8), mean_moves(quiet(8), (1,) * 8)],
                         [(((0,) * 8, ONE),), (8, 1)])
        # Cells that hinder one another: the first one that goes on stays on.
        net = net_from([[0, -1, -1], [-1, 0, -1], [-1, -1, 0]], ["-1/2"] * 3)
        third = (1, 3)
        self.assertEqual(end_chances(net, (0, 0, 0)), (((1, 0, 0), third), ((0, 1, 0), third), ((0, 0, 1), third)))
        self.assertEqual([mean_moves(net, (0, 0, 0)), mean_moves(net, (1, 1, 1))], [ONE, (2, 1)])

    def test_cells_that_move_on_their_own_count_as_movers(self):
        # Cell 2 only goes off; it does not change the chances of the pals, but the mean.
        net = net_from([[0, 1, 0], [1, 0, 0], [0, 0, 0]], ["1/2", "1/2", 0])
        self.assertEqual(end_chances(net, (1, 0, 1)), (((0, 0, 0), (1, 2)), ((1, 1, 0), (1, 2))))
        self.assertEqual(mean_moves(net, (1, 0, 1)), (2, 1))

    def test_none_beside_a_round(self):
        for net, state in ((CHASE, (0, 0)), (CAUGHT, (0, 0, 0)), (FREED, (1, 0, 1))):
            self.assertIs(end_chances(net, state), None)
            self.assertIs(mean_moves(net, state), None)
        # Elsewhere in the same net there is none.
        self.assertEqual([end_chances(CAUGHT, (1, 1, 1)), mean_moves(CAUGHT, (1, 1, 1))],
                         [(((1, 0, 1), ONE),), ONE])


class Wrong(unittest.TestCase):
    def test_wrong_nets(self):
        for value in wrong_nets():
            for call in (end_chances, mean_moves):
                assert_refused(self, InvalidNet, "given", value, call, (value, None))

    def test_wrong_states(self):
        for net in (SHY, PALS, CHASE, WHEEL):
            for value in wrong_states(len(net[1])):
                for call in (end_chances, mean_moves):
                    assert_refused(self, InvalidState, "given", value, call, (net, value))

    def test_parameters_have_the_names_of_the_document(self):
        for call in (end_chances, mean_moves):
            assert_signature(self, call, "net state")


if __name__ == "__main__":
    unittest.main()
