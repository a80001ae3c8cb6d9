"""Point [8], and "heights or a round" in [2]."""
import unittest

from heednets.errors import InvalidNet, InvalidState
from heednets.heights import are_heights, heights_or_round, is_round, most_moves
from tests.helper import (BOLD, CHASE, LAME, PALS, SHY, STRANGE, TURN, WHEEL, assert_refused, assert_signature, leads,
                          longest, net_from, on_a_round, quiet, reach, sample_nets, states_of, wrong_nets,
                          wrong_states)

NETS = sample_nets(8, 40, most=3) + sample_nets(9, 10, most=4)
CHASE_ROUND = ((0, 0), (0, 1), (1, 1), (1, 0))


def rises(net, value):
    """Whether some move leads to a state that has not less, by looking at all moves."""
    states = states_of(len(net[1]))
    for state, height in zip(states, value):
        for behind in leads(net, state):
            if value[states.index(behind)] >= height:
                return True
    return False


def goes_round(net, states):
    """Whether states are a round, by its words."""
    if len(states) < 2 or any(states.count(state) > 1 for state in states):
        return False
    return all(behind in leads(net, state) for state, behind in zip(states, states[1:] + states[:1]))


class HeightsOrRound(unittest.TestCase):
    def test_just_one_of_both_and_it_is_so(self):
        words = []
        for net in NETS:
            states = states_of(len(net[1]))
            word, told = heights_or_round(net)
            words.append(word)
            most = [longest(net, state) for state in states]
            if any(on_a_round(net, state) for state in states):
                self.assertEqual(word, "round")
                self.assertTrue(goes_round(net, told), told)
                self.assertIs(is_round(net, told), True)
                self.assertIn(None, most)
            else:
                self.assertEqual(repr((word, told)), repr(("heights", tuple(most))))
                self.assertIs(are_heights(net, told), True)
        self.assertLess(5, words.count("round"))
        self.assertLess(10, words.count("heights"))

    def test_known_nets(self):
        self.assertEqual(heights_or_round(SHY), ("heights", (0, 1)))
        self.assertEqual(heights_or_round(BOLD), ("heights", (1, 0)))
        self.assertEqual(heights_or_round(LAME), ("heights", (0, 1, 1, 0)))
        self.assertEqual(heights_or_round(TURN)[0], "heights")
        self.assertEqual(heights_or_round(WHEEL)[0], "round")
        self.assertEqual(heights_or_round(CHASE)[0], "round")
        self.assertEqual(sorted(heights_or_round(CHASE)[1]), sorted(CHASE_ROUND))

    def test_eight_cells(self):
        word, told = heights_or_round(quiet(8))
        self.assertEqual((word, told), ("heights", tuple(bin(number).count("1") for number in range(256))))
        chased = [[0] * 8 for _ in range(8)]
        chased[6][7], chased[7][6] = 1, -1
        net = net_from(chased, [0] * 7 + ["-1/2"])
        word, told = heights_or_round(net)
        self.assertEqual(word, "round")
        self.assertTrue(goes_round(net, told))
        self.assertIsNone(most_moves(net, (1,) * 8))

    def test_equal_calls_return_equal_results(self):
        for net in NETS[:20]:
            self.assertEqual(heights_or_round(net), heights_or_round(net=net))

    def test_wrong_nets(self):
        for value in wrong_nets():
            assert_refused(self, InvalidNet, "given", value, heights_or_round, (value,))
            assert_refused(self, InvalidNet, "given", value, are_heights, (value, None))
            assert_refused(self, InvalidNet, "given", value, is_round, (value, None))
            assert_refused(self, InvalidNet, "given", value, most_moves, (value, None))

    def test_parameters_have_the_names_of_the_document(self):
        for call, names in ((heights_or_round, "net"), (are_heights, "net value"), (is_round, "net value"),
                            (most_moves, "net state")):
            assert_signature(self, call, names)


class AreHeights(unittest.TestCase):
    def test_the_least_ones_are_and_lesser_ones_are_not(self):
        for net in NETS:
            word, told = heights_or_round(net)
            if word == "round":
                continue
            for at in range(len(told)):
                for change in (-2, -1, 1, 2):
                    value = told[:at] + (told[at] + change,) + told[at + 1:]
                    due = min(value) >= 0 and not rises(net, value)
                    self.assertIs(are_heights(net, value), due, (net, value))
            self.assertIs(are_heights(net, tuple(5 * height + 10 ** 300 for height in told)), True)

    def test_all_rows_of_small_numbers(self):
        for net in (PALS, LAME, CHASE, quiet(2)):
            for number in range(4 ** 4):
                value = tuple(number // 4 ** k % 4 for k in range(4))
                self.assertIs(are_heights(net, value), not rises(net, value))

    def test_where_there_is_a_round_nothing_is(self):
        for net in (CHASE, WHEEL):
            many = 2 ** len(net[1])
            for value in (tuple(range(many)), tuple(range(many))[::-1], (0,) * many):
                self.assertIs(are_heights(net, value), False)

    def test_values_that_are_none(self):
        for value in STRANGE + ((), (0, 1, 1), (0, 1, 1, 0, 0), [0, 1, 1, 0], (0, True, 1, 0), (False, 1, 1, 0),
                                (0, 1, 1, -1), (0, 1, 1, None), (0, 1, 1, "0"), (0, 1, 1, (0,)), (0, 0, 1, 0),
                                ((0, 1), (1, 1), (1, 1), (0, 1)), "0110", b"0110", ("heights", (0, 1, 1, 0))):
            self.assertIs(are_heights(PALS, value), False, value)
            self.assertIs(are_heights(net=PALS, value=value), False)
        self.assertIs(are_heights(PALS, (0, 1, 1, 0)), True)
        self.assertIs(are_heights(SHY, (3, 4)), True)
        self.assertIs(are_heights(SHY, (3, 3)), False)


class IsRound(unittest.TestCase):
    def test_a_round_may_begin_anywhere(self):
        for at in range(4):
            told = CHASE_ROUND[at:] + CHASE_ROUND[:at]
            self.assertIs(is_round(CHASE, told), True)
            self.assertIs(is_round(CHASE, told[::-1]), False)
            self.assertIs(is_round(CHASE, told[:3]), False)
            self.assertIs(is_round(CHASE, told[:2]), False)
            self.assertIs(is_round(CHASE, told[:1]), False)
            self.assertIs(is_round(CHASE, told + told[:1]), False)

    def test_values_that_are_none(self):
        first, *others = CHASE_ROUND
        for value in STRANGE + ((), list(CHASE_ROUND), CHASE_ROUND * 2, (list(first), *others),
                                ((False, 0), *others), (0, *others), (None, *others), ((0,), *others),
                                ((0, 0, 0), *others), ((0, 2), *others), (first, first, *others),
                                ("round", CHASE_ROUND), (0, 2, 3, 1), "0231"):
            self.assertIs(is_round(CHASE, value), False, value)
            self.assertIs(is_round(net=CHASE, value=value), False)

    def test_just_what_goes_round_is_one(self):
        for net in NETS:
            states = states_of(len(net[1]))
            for state in states:
                for path in paths(net, state, 6):
                    self.assertIs(is_round(net, path), goes_round(net, path), (net, path))

    def test_a_jump_over_two_cells_is_no_move(self):
        self.assertIs(is_round(PALS, ((1, 0), (0, 1))), False)
        self.assertIs(is_round(WHEEL, ((0, 1, 0), (1, 0, 1))), False)


def paths(net, state, most):
    """Some rows of moves from a state, the state itself among them, a few of them with a jump."""
    found, told = [(state,)], [state]
    for k in range(most):
        moves = leads(net, told[-1])
        if not moves:
            break
        told.append(moves[k % len(moves)])
        found.append(tuple(told))
        found.append(tuple(told[1:]))
        found.append(tuple(told[:-2] + told[-1:]))
    return found


class MostMoves(unittest.TestCase):
    def test_as_by_trying_all(self):
        for net in NETS:
            for state in states_of(len(net[1])):
                self.assertEqual(repr(most_moves(net, state)), repr(longest(net, state)))

    def test_states_with_and_without_an_end_in_one_net(self):
        net = net_from([[0, 1, -9], [-1, 0, -9], [0, 0, 0]], ["1/2", "-1/2", -1])
        told = [most_moves(net, state) for state in states_of(3)]
        self.assertEqual(told[4:], [0, 1, 1, 2])
        self.assertEqual(told[:4], [None] * 4)
        self.assertIn((0, 0, 1), reach(net, (0, 0, 0)))

    def test_wrong_states(self):
        for net in (SHY, PALS, WHEEL):
            for value in wrong_states(len(net[1])):
                assert_refused(self, InvalidState, "given", value, most_moves, (net, value))


if __name__ == "__main__":
    unittest.main()
