"""Points [14] and [15], and of [8] what it says of rounds."""
import unittest

from heednets.ends import come_to, ends, fold, is_sure, round_at, row_to
from heednets.errors import InvalidNet, InvalidState
from heednets.heights import is_round, most_moves
from heednets.nets import is_rest, rests
from heednets.orders import behind_row
from tests.helper import (BOLD, CAUGHT, CHASE, FREED, PALS, SHY, WHEEL, assert_refused, assert_signature, ends_by_all,
                          is_open_by_all, leads, net_from, on_a_round, quiet, reach, rests_by_all, sample_nets,
                          states_of, wants, wrong_nets, wrong_rests, wrong_states)

NETS = sample_nets(20, 30, most=4) + [CAUGHT, FREED]


def distances(net, state):
    """With how many moves each state is come to, by as many steps at once."""
    told, edge, steps = {state: 0}, {state}, 0
    while edge:
        steps += 1
        edge = {behind for met in edge for behind in leads(net, met)} - set(told)
        for behind in edge:
            told[behind] = steps
    return told


class ComeTo(unittest.TestCase):
    def test_as_reckoned_plainly(self):
        for net in NETS:
            for state in states_of(len(net[1])):
                due = tuple(met for met in states_of(len(net[1])) if met in reach(net, state))
                self.assertEqual(repr(come_to(net, state)), repr(due))
                self.assertEqual(repr(come_to(net=net, state=state)), repr(due))

    def test_a_state_is_come_to_from_itself(self):
        self.assertEqual([come_to(SHY, (0,)), come_to(SHY, (1,)), come_to(BOLD, (1,))],
                         [((0,),), ((0,), (1,)), ((1,),)])
        for net in NETS:
            for state in rests_by_all(net):
                self.assertEqual(come_to(net, state), (state,))

    def test_ascending_by_numbers_not_as_tuples(self):
        self.assertEqual(come_to(quiet(2), (1, 1)), ((0, 0), (1, 0), (0, 1), (1, 1)))
        self.assertEqual(len(come_to(quiet(8), (1,) * 8)), 256)


class Ends(unittest.TestCase):
    def test_as_reckoned_plainly(self):
        for net in NETS:
            for state in states_of(len(net[1])):
                self.assertEqual(repr(ends(net, state)), repr(tuple(ends_by_all(net, state))))
                self.assertIs(is_sure(net, state), not is_open_by_all(net, state))

    def test_a_rest_has_itself_and_is_sure_of_it(self):
        for net in NETS:
            for state in rests(net):
                self.assertEqual(ends(net, state), (state,))
                self.assertIs(is_sure(net, state), True)

    def test_one_end_beside_a_round_is_not_sure(self):
        self.assertEqual([ends(CAUGHT, (0, 0, 0)), is_sure(CAUGHT, (0, 0, 0))], [((1, 0, 1),), False])
        self.assertEqual([ends(CAUGHT, (1, 1, 1)), is_sure(CAUGHT, (1, 1, 1))], [((1, 0, 1),), True])
        self.assertIsNot(round_at(CAUGHT, (0, 0, 0)), None)

    def test_no_end_at_all_is_not_sure(self):
        for state in states_of(2):
            self.assertEqual([ends(CHASE, state), is_sure(CHASE, state)], [(), False])
        self.assertEqual([ends(FREED, (1, 0, 1)), is_sure(FREED, (1, 0, 1))], [(), False])

    def test_two_ends(self):
        self.assertEqual([ends(PALS, (1, 0)), is_sure(PALS, (1, 0))], [((0, 0), (1, 1)), False])
        # All moves lead to states that are open, with the same two ends.
        net = net_from([[0, 1, 0], [1, 0, 0], [0, 0, 0]], ["1/2", "1/2", 0])
        self.assertEqual([ends(net, (1, 0, 1)), is_sure(net, (1, 0, 1))], [((0, 0, 0), (1, 1, 0)), False])

    def test_sure_rows_can_be_gone_on_with_and_are_short(self):
        for net in NETS:
            for state in states_of(len(net[1])):
                if is_sure(net, state):
                    end, = ends(net, state)
                    self.assertLess(most_moves(net, state), len(come_to(net, state)))
                    for met in come_to(net, state):
                        self.assertEqual(ends(net, met), (end,))


class Rows(unittest.TestCase):
    def test_rows_lead_there_and_none_is_shorter(self):
        missing = 0
        for net in NETS:
            for state in states_of(len(net[1])):
                far = distances(net, state)
                for other in states_of(len(net[1])):
                    row = row_to(net, state, other)
                    if other not in far:
                        self.assertIs(row, None)
                        missing += 1
                    else:
                        self.assertIs(row.__class__, tuple)
                        self.assertEqual(len(row), far[other])
                        self.assertEqual(behind_row(net, state, row), other)
                        self.assertEqual({cell.__class__ for cell in row} | {int}, {int})
        self.assertLess(100, missing)

    def test_a_row_to_the_state_itself(self):
        for net in NETS:
            for state in states_of(len(net[1])):
                self.assertEqual(row_to(net, state, state), ())

    def test_known_rows(self):
        self.assertEqual([row_to(SHY, (1,), (0,)), row_to(SHY, (0,), (1,)), row_to(BOLD, (0,), (1,))],
                         [(0,), None, (0,)])
        self.assertEqual(row_to(CHASE, (0, 0), (1, 0)), (1, 0, 1))
        self.assertEqual(sorted(row_to(quiet(8), (1,) * 8, (0,) * 8)), list(range(8)))
        self.assertIs(row_to(net=PALS, state=(1, 1), other=(0, 0)), None)


class Rounds(unittest.TestCase):
    def test_rounds_begin_with_the_state_or_there_is_none(self):
        told = {True: 0, False: 0}
        for net in NETS:
            for state in states_of(len(net[1])):
                found = round_at(net, state)
                if on_a_round(net, state):
                    self.assertEqual(found[0], state)
                    self.assertIs(is_round(net, found), True)
                    for met, behind in zip(found, found[1:] + found[:1]):
                        self.assertIn(behind, leads(net, met))
                    self.assertEqual(len(set(found)), len(found))
                else:
                    self.assertIs(found, None)
                told[found is None] += 1
        self.assertLess(30, min(told.values()))

    def test_a_round_of_which_the_state_is_no_part(self):
        self.assertIs(round_at(FREED, (1, 0, 1)), None)
        self.assertTrue(any(on_a_round(FREED, met) for met in come_to(FREED, (1, 0, 1))))
        self.assertEqual(len(round_at(FREED, (1, 0, 0))), 4)
        self.assertIs(round_at(CAUGHT, (1, 1, 1)), None)

    def test_known_rounds(self):
        self.assertEqual(round_at(CHASE, (0, 0)), ((0, 0), (0, 1), (1, 1), (1, 0)))
        self.assertEqual(round_at(net=CHASE, state=(1, 1)), ((1, 1), (1, 0), (0, 0), (0, 1)))
        self.assertEqual([round_at(SHY, (0,)), round_at(SHY, (1,)), round_at(PALS, (1, 0))], [None, None, None])


class Folds(unittest.TestCase):
    def test_as_reckoned_plainly(self):
        left = 0
        for net in NETS:
            states = states_of(len(net[1]))
            seen = []
            for rest in rests(net):
                due = tuple(state for state in states
                            if ends_by_all(net, state) == [rest] and not is_open_by_all(net, state))
                self.assertEqual(repr(fold(net, rest)), repr(due))
                self.assertEqual(repr(fold(net=net, rest=rest)), repr(due))
                self.assertIn(rest, due)
                for state in due:
                    self.assertLessEqual(set(come_to(net, state)), set(due))
                seen.extend(due)
            self.assertEqual(len(seen), len(set(seen)))
            left += len(states) - len(seen)
        self.assertLess(50, left)

    def test_known_folds(self):
        self.assertEqual([fold(PALS, (0, 0)), fold(PALS, (1, 1))], [((0, 0),), ((1, 1),)])
        self.assertEqual([fold(SHY, (0,)), fold(BOLD, (1,))], [((0,), (1,)), ((0,), (1,))])
        self.assertEqual(fold(CAUGHT, (1, 0, 1)), ((1, 0, 1), (1, 1, 1)))
        self.assertEqual(fold(quiet(8), (0,) * 8), tuple(states_of(8)))


class Wrong(unittest.TestCase):
    def test_wrong_nets(self):
        for value in wrong_nets():
            for call in (come_to, ends, is_sure, round_at, fold):
                assert_refused(self, InvalidNet, "given", value, call, (value, None))
            assert_refused(self, InvalidNet, "given", value, row_to, (value, None, None))

    def test_wrong_states(self):
        for net in (SHY, PALS, CHASE, WHEEL):
            state = (0,) * len(net[1])
            for value in wrong_states(len(net[1])):
                for call in (come_to, ends, is_sure, round_at):
                    assert_refused(self, InvalidState, "given", value, call, (net, value))
                assert_refused(self, InvalidState, "given", value, row_to, (net, value, ()))
                assert_refused(self, InvalidState, "given", value, row_to, (net, value, state))
                assert_refused(self, InvalidState, "given", value, row_to, (net, state, value))

    def test_states_that_are_no_rests_have_no_fold(self):
        for net in (SHY, BOLD, PALS, CHASE, WHEEL, CAUGHT):
            for value in wrong_rests(net):
                assert_refused(self, InvalidState, "given", value, fold, (net, value))
            for state in states_of(len(net[1])):
                if wants(net, state) == state:
                    self.assertIs(is_rest(net, state), True)
                    fold(net, state)

    def test_parameters_have_the_names_of_the_document(self):
        for call, names in ((come_to, "net state"), (ends, "net state"), (is_sure, "net state"),
                            (row_to, "net state other"), (round_at, "net state"), (fold, "net rest")):
            assert_signature(self, call, names)

    def test_equal_calls_return_equal_results(self):
        for net in NETS[:20]:
            for state in states_of(len(net[1])):
                self.assertEqual(round_at(net, state), round_at(net, state))
                self.assertEqual(row_to(net, state, (1,) * len(state)), row_to(net, state, (1,) * len(state)))


if __name__ == "__main__":
    unittest.main()
