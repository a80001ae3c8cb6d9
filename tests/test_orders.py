"""Points [13] and [14]."""
import random
import unittest

from heednets.energy import most_by_energy
from heednets.errors import InvalidLot, InvalidNet, InvalidState
from heednets.heights import heights_or_round, most_moves
from heednets.nets import is_rest
from heednets.orders import behind_row, is_row, order_run, pass_behind
from tests.helper import (BOLD, CHASE, PALS, SHY, STRANGE, WHEEL, assert_refused, assert_signature, flipped, leads,
                          pass_by_all, quiet, reach, sample_nets, scales_of, states_of, tail_and_ring_by_all, wants,
                          wrong_nets, wrong_states)

NETS = sample_nets(15, 30, most=4)


def some_orders(many):
    """Orders of one to sixteen cells, some cells more than once, some not at all."""
    rng = random.Random(many)
    orders = [tuple(rng.randrange(many) for _ in range(length)) for length in (1, 2, 3, 5, 16)]
    return orders + [tuple(range(many)), tuple(range(many))[::-1]]


def walk_by_all(net, state, row):
    """The state behind a row of moves, cell by cell; None."""
    for cell in row:
        if wants(net, state)[cell] == state[cell]:
            return None
        state = flipped(state, cell)
    return state


def wrong_lots(many, fewest, most):
    """Pairs of a value that is no row of so many cells and the index that is told."""
    wrong = [([0] * max(fewest, 1), None), ((0,) * (most + 1), None), ((None,) * (most + 1), None),
             ((0, many), 1), ((many, 0), 0), ((0, 0, -1), 2), ((0, True), 1), ((False,), 0), ((0, None, many), 1),
             ((0,) * (most - 1) + (many,), most - 1), (((0,),), 0), ((0, "0"), 1), ((0, (0, 1)), 1), ((b"",), 0)]
    wrong += [(value, 0 if isinstance(value, tuple) and value else None) for value in STRANGE]
    if fewest > 0:
        wrong.append(((), None))
    return wrong


class Passes(unittest.TestCase):
    def test_passes_as_reckoned_plainly(self):
        for net in NETS:
            for order in some_orders(len(net[1])):
                for state in states_of(len(net[1])):
                    due = pass_by_all(net, state, order)
                    self.assertEqual(repr(pass_behind(net, state, order)), repr(due))

    def test_each_cell_becomes_what_it_wants_at_that_time(self):
        self.assertEqual(pass_behind(CHASE, (0, 0), (1, 0)), (1, 1))
        self.assertEqual(pass_behind(CHASE, (0, 0), (0, 1)), (0, 1))
        self.assertEqual(pass_behind(CHASE, (0, 0), (1, 0, 1)), (1, 0))
        self.assertEqual(pass_behind(WHEEL, (0, 0, 0), (0, 1, 2)), (1, 1, 1))
        self.assertEqual(pass_behind(BOLD, (0,), (0,) * 16), (1,))

    def test_order_runs_as_reckoned_plainly(self):
        for net in NETS:
            for order in some_orders(len(net[1])):
                for state in states_of(len(net[1])):
                    due = tail_and_ring_by_all(lambda now: pass_by_all(net, now, order), state)
                    self.assertEqual(repr(order_run(net, state, order)), repr(due))

    def test_with_heights_and_all_cells_each_ring_is_a_rest(self):
        for net in NETS:
            if heights_or_round(net)[0] == "round":
                continue
            for order in some_orders(len(net[1])):
                if len(set(order)) < len(net[1]):
                    continue
                for state in states_of(len(net[1])):
                    tail, ring = order_run(net, state, order)
                    self.assertEqual(len(ring), 1)
                    self.assertIs(is_rest(net, ring[0]), True)
                    if scales_of(net) is not None:
                        self.assertLessEqual(len(tail), most_by_energy(net))

    def test_without_heights_a_ring_of_one_state_need_not_be_a_rest(self):
        self.assertEqual(order_run(CHASE, (0, 0), (1, 0, 1, 0)), ((), ((0, 0),)))
        self.assertIs(is_rest(CHASE, (0, 0)), False)

    def test_an_order_without_some_cell_may_stay_where_no_rest_is(self):
        self.assertEqual(order_run(quiet(2), (1, 1), (0,)), (((1, 1),), ((0, 1),)))

    def test_rings_of_two_and_more_states(self):
        self.assertEqual(order_run(CHASE, (0, 0), (1, 0)), ((), ((0, 0), (1, 1))))
        self.assertEqual(len(order_run(WHEEL, (0, 1, 0), (0, 1))[1]), 1)
        longest = max(len(order_run(WHEEL, state, order)[1]) for state in states_of(3) for order in some_orders(3))
        self.assertLess(1, longest)

    def test_orders_of_one_and_sixteen_cells(self):
        self.assertEqual(pass_behind(PALS, (1, 0), (0,)), (0, 0))
        self.assertEqual(pass_behind(PALS, (1, 0), (1,) + (0,) * 15), (1, 1))
        self.assertEqual(order_run(PALS, (1, 0), (0,) * 16), (((1, 0),), ((0, 0),)))


class Rows(unittest.TestCase):
    def test_rows_as_reckoned_plainly(self):
        rng = random.Random(3)
        told = {True: 0, False: 0}
        for net in NETS:
            many = len(net[1])
            for state in states_of(many):
                for length in (0, 1, 1, 2, 2, 3):
                    row = tuple(rng.randrange(many) for _ in range(length))
                    due = walk_by_all(net, state, row)
                    self.assertEqual(repr(behind_row(net, state, row)), repr(due))
                    self.assertIs(is_row(net, state, row), due is not None)
                    told[due is not None] += 1
        self.assertLess(100, min(told.values()))

    def test_rows_of_moves_come_just_where_moves_lead(self):
        for net in NETS[:20]:
            for state in states_of(len(net[1])):
                self.assertLessEqual({behind_row(net, state, (cell,)) for cell in range(len(net[1]))},
                                     set(leads(net, state)) | {None})
                self.assertIn(behind_row(net, state, ()), reach(net, state))

    def test_a_row_of_no_cell(self):
        for net in NETS:
            for state in states_of(len(net[1])):
                self.assertIs(is_row(net, state, ()), True)
                self.assertEqual(behind_row(net, state, ()), state)

    def test_rows_of_four_hundred_cells(self):
        row = (1, 0) * 200
        self.assertEqual([is_row(CHASE, (0, 0), row), behind_row(CHASE, (0, 0), row)], [True, (0, 0)])
        self.assertEqual(behind_row(CHASE, (0, 0), row[:399]), (1, 0))
        self.assertEqual([is_row(CHASE, (0, 0), row[:399] + (1,)), behind_row(CHASE, (0, 0), (0,) * 400)],
                         [False, None])
        for call in (is_row, behind_row):
            assert_refused(self, InvalidLot, "index", None, call, (CHASE, (0, 0), row + (1,)))

    def test_a_cell_that_is_no_mover_at_its_time(self):
        self.assertEqual([behind_row(PALS, (1, 0), (1,)), behind_row(PALS, (1, 0), (1, 0))], [(1, 1), None])
        self.assertEqual([is_row(SHY, (1,), (0,)), is_row(SHY, (1,), (0, 0)), is_row(SHY, (0,), (0,))],
                         [True, False, False])

    def test_rows_have_at_most_as_many_moves_as_can_be_made(self):
        for net in (PALS, SHY, quiet(3)):
            for state in states_of(len(net[1])):
                most = most_moves(net, state)
                movers = tuple(cell for cell in range(len(state)) if state[cell] != wants(net, state)[cell])
                self.assertIs(is_row(net, state, movers), most == len(movers))


class Wrong(unittest.TestCase):
    def test_wrong_orders(self):
        for net in (SHY, PALS, WHEEL):
            many = len(net[1])
            for value, index in wrong_lots(many, 1, 16):
                for call in (pass_behind, order_run):
                    assert_refused(self, InvalidLot, "index", index, call, (net, (0,) * many, value))

    def test_wrong_rows(self):
        for net in (SHY, PALS, WHEEL):
            many = len(net[1])
            for value, index in wrong_lots(many, 0, 400):
                for call in (is_row, behind_row):
                    assert_refused(self, InvalidLot, "index", index, call, (net, (0,) * many, value))

    def test_wrong_cells_come_ahead_of_those_that_are_no_movers(self):
        assert_refused(self, InvalidLot, "index", 2, is_row, (SHY, (0,), (0, 0, 1)))
        assert_refused(self, InvalidLot, "index", 1, behind_row, (SHY, (0,), (0, 1, 1)))

    def test_wrong_nets(self):
        for value in wrong_nets():
            for call in (pass_behind, order_run, is_row, behind_row):
                assert_refused(self, InvalidNet, "given", value, call, (value, None, None))

    def test_wrong_states(self):
        for net in (SHY, PALS, WHEEL):
            for value in wrong_states(len(net[1])):
                for call in (pass_behind, order_run, is_row, behind_row):
                    assert_refused(self, InvalidState, "given", value, call, (net, value, None))

    def test_parameters_have_the_names_of_the_document(self):
        for call, names in ((pass_behind, "net state order"), (order_run, "net state order"),
                            (is_row, "net state row"), (behind_row, "net state row")):
            assert_signature(self, call, names)


if __name__ == "__main__":
    unittest.main()
