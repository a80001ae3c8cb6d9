"""Points [11] and [12]."""
import unittest

from heednets.atonce import level, most_steps, rings, run, swings
from heednets.energy import drop
from heednets.errors import InvalidNet, InvalidState, NotScaled
from heednets.nets import is_rest, rests
from tests.helper import (BOLD, CHASE, LAME, ONE, PALS, SHY, TURN, WHEEL, assert_refused, assert_signature,
                          level_by_all, drop_by_all, net_from, number, pair, quiet, sample_nets, scales_of, states_of,
                          tail_and_ring_by_all, wants, wrong_nets, wrong_states)

NETS = sample_nets(14, 40, most=4)
SCALED = [net for net in NETS if scales_of(net) is not None]
UNSCALED = [net for net in NETS if scales_of(net) is None]


def place(state):
    return sum(2 ** k for k, on in enumerate(state) if on == 1)


class Runs(unittest.TestCase):
    def test_runs_as_reckoned_plainly(self):
        lengths = set()
        for net in NETS:
            for state in states_of(len(net[1])):
                due = tail_and_ring_by_all(lambda now: wants(net, now), state)
                self.assertEqual(repr(run(net, state)), repr(due))
                self.assertEqual(repr(run(net=net, state=state)), repr(due))
                lengths.add((min(len(due[0]), 2), min(len(due[1]), 3)))
        # Tails of none, one and more, rings of one, two and more states have been among them.
        self.assertEqual({tail for tail, _ in lengths}, {0, 1, 2})
        self.assertEqual({ring for _, ring in lengths}, {1, 2, 3})

    def test_a_ring_of_one_state_is_a_rest_and_each_rest_is_one(self):
        for net in NETS:
            for state in states_of(len(net[1])):
                tail, ring = run(net, state)
                self.assertEqual(len(ring) == 1, is_rest(net, ring[0]))
                if is_rest(net, state):
                    self.assertEqual((tail, ring), ((), (state,)))

    def test_the_ring_begins_behind_the_tail(self):
        self.assertEqual(run(SHY, (1,)), (((1,),), ((0,),)))
        self.assertEqual(run(BOLD, (0,)), (((0,),), ((1,),)))
        self.assertEqual(run(CHASE, (1, 1)), ((), ((1, 1), (1, 0), (0, 0), (0, 1))))
        # Cells 0 and 1 swing; cell 2 goes off first.
        net = net_from([[0, 1, 0], [1, 0, 0], [0, 0, 0]], ["1/2", "1/2", 0])
        self.assertEqual(run(net, (0, 1, 1)), (((0, 1, 1),), ((1, 0, 0), (0, 1, 0))))

    def test_swings_as_reckoned_plainly(self):
        for net in NETS:
            states = states_of(len(net[1]))
            due = tuple((one, other) for one in states for other in states
                        if place(one) < place(other) and wants(net, one) == other and wants(net, other) == one)
            self.assertEqual(repr(swings(net)), repr(due))
        self.assertEqual([swings(SHY), swings(CHASE), swings(quiet(8))], [(), (), ()])

    def test_rings_as_reckoned_plainly(self):
        for net in NETS:
            found = {}
            for state in states_of(len(net[1])):
                ring = tail_and_ring_by_all(lambda now: wants(net, now), state)[1]
                at = min(range(len(ring)), key=lambda k: place(ring[k]))
                found[place(ring[at])] = ring[at:] + ring[:at]
            self.assertEqual(repr(rings(net)), repr(tuple(found[key] for key in sorted(found))))
            self.assertEqual(tuple(ring[0] for ring in rings(net) if len(ring) == 1), rests(net))
            self.assertEqual(tuple(ring for ring in rings(net) if len(ring) == 2), swings(net))

    def test_rings_begin_with_their_least_number_not_their_least_tuple(self):
        self.assertEqual(rings(PALS)[1], ((1, 0), (0, 1)))
        self.assertEqual(rings(CHASE), (((0, 0), (0, 1), (1, 1), (1, 0)),))


class Levels(unittest.TestCase):
    def test_levels_as_reckoned_plainly(self):
        self.assertLess(30, len(SCALED))
        for net in SCALED:
            scales, states = scales_of(net), states_of(len(net[1]))
            for other in states[::3]:
                for state in states:
                    due = pair(level_by_all(net, scales, other, state))
                    self.assertEqual(repr(level(net, other, state)), repr(due))

    def test_the_level_falls_by_the_drop(self):
        for net in SCALED:
            least = number(drop(net))
            for state in states_of(len(net[1])):
                behind = wants(net, state)
                farther = wants(net, behind)
                fall = number(level(net, behind, state)) - number(level(net, farther, behind))
                if farther == state:
                    self.assertEqual(fall, 0)
                else:
                    self.assertGreaterEqual(fall, least)

    def test_most_steps_as_reckoned_plainly(self):
        for net in SCALED:
            scales, states = scales_of(net), states_of(len(net[1]))
            lowest = min(level_by_all(net, scales, other, state) for other in states for state in states)
            for state in states:
                due = (level_by_all(net, scales, wants(net, state), state) - lowest) // drop_by_all(net, scales)
                self.assertEqual(repr(most_steps(net, state)), repr(due))

    def test_the_at_once_sentence(self):
        for net in SCALED:
            for state in states_of(len(net[1])):
                tail, ring = run(net, state)
                self.assertIn(len(ring), (1, 2))
                self.assertLessEqual(len(tail), most_steps(net, state))

    def test_known_levels(self):
        self.assertEqual([level(SHY, (1,), (0,)), level(SHY, (1,), (1,)), most_steps(SHY, (1,))], [(3, 2), (3, 1), 1])
        self.assertEqual([most_steps(SHY, (0,)), most_steps(BOLD, (0,)), level(BOLD, (1,), (0,))], [0, 1, (-1, 4)])
        self.assertEqual([level(LAME, (1, 0), (0, 1)), level(LAME, (1, 0), (1, 0))], [(3, 4), (5, 2)])
        self.assertEqual([most_steps(quiet(8), (1,) * 8), level(quiet(8), (1,) * 8, (0,) * 8)], [8, (8, 1)])
        self.assertEqual(level(quiet(1), (1,), (0,)), ONE)


class Wrong(unittest.TestCase):
    def test_nets_without_scales(self):
        for net in UNSCALED + [CHASE, TURN, WHEEL]:
            state = (0,) * len(net[1])
            assert_refused(self, NotScaled, None, None, level, (net, state, state))
            assert_refused(self, NotScaled, None, None, most_steps, (net, state))

    def test_wrong_nets(self):
        for value in wrong_nets():
            assert_refused(self, InvalidNet, "given", value, run, (value, None))
            assert_refused(self, InvalidNet, "given", value, swings, (value,))
            assert_refused(self, InvalidNet, "given", value, rings, (value,))
            assert_refused(self, InvalidNet, "given", value, level, (value, None, ()))
            assert_refused(self, InvalidNet, "given", value, most_steps, (value, None))

    def test_wrong_states_come_ahead_of_missing_scales(self):
        for net in (SHY, PALS, CHASE, WHEEL):
            state = (0,) * len(net[1])
            for value in wrong_states(len(net[1])):
                assert_refused(self, InvalidState, "given", value, run, (net, value))
                assert_refused(self, InvalidState, "given", value, most_steps, (net, value))
                assert_refused(self, InvalidState, "given", value, level, (net, value, state))
                assert_refused(self, InvalidState, "given", value, level, (net, value, None))
                assert_refused(self, InvalidState, "given", value, level, (net, state, value))

    def test_parameters_have_the_names_of_the_document(self):
        for call, names in ((run, "net state"), (swings, "net"), (rings, "net"), (level, "net other state"),
                            (most_steps, "net state")):
            assert_signature(self, call, names)

    def test_equal_calls_return_equal_results(self):
        for net in NETS[:20]:
            self.assertEqual([rings(net), swings(net)], [rings(net=net), swings(net=net)])


if __name__ == "__main__":
    unittest.main()
