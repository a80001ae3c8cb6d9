"""Points [23] to [25], and "Helping" in [2]."""
import random
import unittest
from itertools import chain, combinations

from heednets.errors import InvalidLot, InvalidNet, InvalidState, NotHelping
from heednets.helping import (does_light, fewest, greatest_rest, is_helping, is_stubborn, least_rest, least_seeds,
                              rest_above, spread, stubborn_lots)
from heednets.nets import is_rest, rests
from tests.helper import (BOLD, CHASE, LESS, NIL, PALS, SHY, TURN, WHEEL, assert_refused, assert_signature, flipped,
                          hears, net_from, number, quiet, random_helping, rests_by_all, sample_nets, wants,
                          wrong_lots, wrong_nets, wrong_rests)

RNG = random.Random(40)
# Cell 2 wants on as soon as both pairs, 0 and 1, 3 and 4, are on.
ARCH = net_from([[0, 1, 0, 0, 0], [1, 0, 0, 0, 0], [1, 1, 0, 1, 1], [0, 0, 0, 0, 1], [0, 0, 0, 1, 0]],
                ["1/2", "1/2", "7/2", "1/2", "1/2"])
NETS = [PALS, SHY, BOLD, TURN, ARCH, quiet(3)] + [random_helping(RNG, 1 + k % 5) for k in range(100)]
HINDERED = [net for net in sample_nets(41, 20) if any(number(heed) < 0 for row in net[0] for heed in row)]


def all_lots(many):
    """All lots, () first, shorter ones ahead of longer ones."""
    return list(chain.from_iterable(combinations(range(many), length) for length in range(many + 1)))


def on_in(state):
    return tuple(cell for cell, on in enumerate(state) if on == 1)


def just(lot, many):
    """The state in which just the cells of the lot are on."""
    return tuple(1 if cell in lot else 0 for cell in range(many))


def spreads_by_all(net, seeds):
    """All lots at which going on may stop, by all orders."""
    many = len(net[1])
    found, waiting, seen = set(), [frozenset(seeds)], set()
    while waiting:
        lot = waiting.pop()
        if lot in seen:
            continue
        seen.add(lot)
        more = [cell for cell in range(many) if cell not in lot
                and hears(net, cell, just(lot, many)) > number(net[1][cell])]
        waiting.extend(lot | {cell} for cell in more)
        if not more:
            found.add(tuple(sorted(lot)))
    return found


def is_stubborn_by_all(net, lot):
    many = len(net[1])
    rest = just([cell for cell in range(many) if cell not in lot], many)
    return lot != () and all(hears(net, cell, rest) <= number(net[1][cell]) for cell in lot)


def least_of(lots):
    """Those lots that have no other one of them within, ascending."""
    return tuple(sorted(lot for lot in lots if not any(set(other) < set(lot) for other in lots)))


def lights_by_all(net, seeds):
    return spreads_by_all(net, seeds) == {tuple(range(len(net[1])))}


def stops_by_all(net, state):
    """All states at which moves from a state may stop."""
    found, waiting, seen = set(), [state], set()
    while waiting:
        state = waiting.pop()
        if state in seen:
            continue
        seen.add(state)
        wish = wants(net, state)
        if wish == state:
            found.add(state)
        waiting.extend(flipped(state, cell) for cell in range(len(state)) if wish[cell] != state[cell])
    return found


class IsHelping(unittest.TestCase):
    def test_no_weight_below_nought(self):
        for net in NETS:
            self.assertIs(is_helping(net), True)
            self.assertIs(is_helping(net=net), True)
        for net in HINDERED + [CHASE, WHEEL]:
            self.assertIs(is_helping(net), False)

    def test_marks_may_be_below_nought(self):
        self.assertIs(is_helping(net_from([[0, 0], [1, 0]], [-3, -5])), True)
        self.assertIs(is_helping((((NIL, LESS), (NIL, NIL)), (NIL, NIL))), False)
        self.assertIs(is_helping((((NIL, NIL), ((-1, 10 ** 300), NIL)), (NIL, NIL))), False)


class Spreads(unittest.TestCase):
    def test_one_lot_whatever_the_order(self):
        for net in NETS:
            for seeds in all_lots(len(net[1])):
                due, = spreads_by_all(net, seeds)
                self.assertEqual(repr(spread(net, seeds)), repr(due))
                self.assertEqual(repr(spread(net=net, seeds=seeds)), repr(due))
                self.assertIs(does_light(net, seeds), due == tuple(range(len(net[1]))))
                self.assertIs(does_light(net=net, seeds=seeds), lights_by_all(net, seeds))

    def test_the_least_lot_with_the_seeds_that_nobody_wants_to_join(self):
        for net in NETS[:40]:
            many = len(net[1])
            closed = [lot for lot in all_lots(many) if all(wants(net, just(lot, many))[cell] == 0
                                                           for cell in range(many) if cell not in lot)]
            for seeds in all_lots(many):
                within = [lot for lot in closed if set(seeds) <= set(lot)]
                self.assertEqual(set(spread(net, seeds)), set.intersection(*map(set, within)))

    def test_more_seeds_spread_to_no_fewer_cells(self):
        for net in NETS[:40]:
            for seeds in all_lots(len(net[1])):
                for more in all_lots(len(net[1])):
                    if set(seeds) <= set(more):
                        self.assertLessEqual(set(spread(net, seeds)), set(spread(net, more)))

    def test_known_spreads(self):
        self.assertEqual([spread(SHY, ()), spread(SHY, (0,)), spread(BOLD, ()), spread(BOLD, (0,))],
                         [(), (0,), (0,), (0,)])
        # Each cell but the first one needs the one ahead of it.
        way = net_from([[1 if j == i - 1 else 0 for j in range(8)] for i in range(8)], ["1/2"] * 8)
        self.assertEqual([spread(way, ()), spread(way, (3,)), spread(way, (0,)), does_light(way, (0,))],
                         [(), (3, 4, 5, 6, 7), tuple(range(8)), True])
        self.assertIs(does_light(way, (1, 2, 3, 4, 5, 6, 7)), False)

    def test_seeds_are_held_on(self):
        self.assertEqual([spread(quiet(3), (0, 2)), does_light(quiet(3), (0, 1, 2)), does_light(quiet(3), (0, 1))],
                         [(0, 2), True, False])

    def test_heard_that_just_meets_the_mark_is_not_enough(self):
        net = net_from([[0, 1, 1], [0, 0, 0], [0, 0, 0]], [2, 0, 0])
        self.assertEqual(spread(net, (1, 2)), (1, 2))


class Stubborn(unittest.TestCase):
    def test_as_by_the_words(self):
        for net in NETS:
            lots = [lot for lot in all_lots(len(net[1])) if lot]
            for lot in lots:
                self.assertIs(is_stubborn(net, lot), is_stubborn_by_all(net, lot))
                self.assertIs(is_stubborn(net=net, lot=lot), is_stubborn_by_all(net, lot))
            due = least_of([lot for lot in lots if is_stubborn_by_all(net, lot)])
            self.assertEqual(repr(stubborn_lots(net)), repr(due))
            self.assertEqual(repr(stubborn_lots(net=net)), repr(due))

    def test_seeds_light_all_exactly_if_they_meet_each_stubborn_lot(self):
        for net in NETS:
            lots = stubborn_lots(net)
            for seeds in all_lots(len(net[1])):
                self.assertIs(does_light(net, seeds), all(set(seeds) & set(lot) for lot in lots))

    def test_two_together_are_one_and_the_greatest_is_what_the_spread_of_none_leaves(self):
        for net in NETS:
            many = len(net[1])
            lots = [lot for lot in all_lots(many) if lot and is_stubborn(net, lot)]
            for one in lots:
                for other in lots:
                    self.assertIs(is_stubborn(net, tuple(sorted(set(one + other)))), True)
            left = tuple(cell for cell in range(many) if cell not in spread(net, ()))
            self.assertEqual(left in lots, left != ())
            for lot in lots:
                self.assertLessEqual(set(lot), set(left))

    def test_known_lots(self):
        self.assertEqual(stubborn_lots(quiet(3)), ((0,), (1,), (2,)))
        self.assertEqual([stubborn_lots(SHY), stubborn_lots(BOLD)], [((0,),), ()])
        self.assertEqual([is_stubborn(PALS, (0, 1)), is_stubborn(PALS, (1,)), is_stubborn(BOLD, (0,))],
                         [True, False, False])

    def test_ascending_as_tuples(self):
        # Cells 0 and 3 hold one another off, cell 1 alone stays off, cell 2 goes on by itself.
        net = net_from([[0, 0, 0, 1], [0, 0, 0, 0], [0, 0, 0, 0], [1, 0, 0, 0]], ["1/2", 0, -1, "1/2"])
        self.assertEqual(stubborn_lots(net), ((0, 3), (1,)))
        self.assertEqual(least_seeds(net), ((0, 1), (1, 3)))


class LeastSeeds(unittest.TestCase):
    def test_as_by_the_words(self):
        for net in NETS:
            lighting = [lot for lot in all_lots(len(net[1])) if lights_by_all(net, lot)]
            due = tuple(sorted(lot for lot in lighting
                               if not any(lights_by_all(net, tuple(c for c in lot if c != cell)) for cell in lot)))
            self.assertEqual(repr(least_seeds(net)), repr(due))
            self.assertEqual(repr(least_seeds(net=net)), repr(due))
            few = min(map(len, lighting))
            self.assertEqual(repr(fewest(net)), repr(tuple(sorted(lot for lot in lighting if len(lot) == few))))
            self.assertEqual(fewest(net), fewest(net=net))

    def test_the_least_lots_that_meet_all_least_stubborn_ones(self):
        for net in NETS:
            meeting = [seeds for seeds in all_lots(len(net[1]))
                       if all(set(seeds) & set(lot) for lot in stubborn_lots(net))]
            self.assertEqual(least_seeds(net), least_of(meeting))

    def test_without_any_stubborn_lot(self):
        for net in (BOLD, net_from([[0, 1], [1, 0]], [-1, "1/2"])):
            self.assertEqual([stubborn_lots(net), least_seeds(net), fewest(net)], [(), ((),), ((),)])
            self.assertEqual([spread(net, ()), does_light(net, ())], [tuple(range(len(net[1]))), True])

    def test_known_seeds(self):
        self.assertEqual([least_seeds(SHY), fewest(SHY)], [((0,),), ((0,),)])
        self.assertEqual([least_seeds(quiet(8)), fewest(quiet(8))], [(tuple(range(8)),)] * 2)
        # Cell 0 lights all; the others light it only together.
        net = net_from([[0, 1, 1, 1], [1, 0, 0, 0], [1, 0, 0, 0], [1, 0, 0, 0]], ["5/2", "1/2", "1/2", "1/2"])
        self.assertEqual([least_seeds(net), fewest(net)], [((0,), (1, 2, 3)), ((0,),)])

    def test_ascending_as_tuples_not_by_their_lengths(self):
        # Cells 0 and 1 light each other and 2; cell 2 lights both.
        net = net_from([[0, 0, 2], [0, 0, 2], [1, 1, 0]], [1, 1, 1])
        self.assertEqual([least_seeds(net), fewest(net)], [((0, 1), (2,)), ((2,),)])


class Rests(unittest.TestCase):
    def test_least_and_greatest(self):
        for net in NETS:
            many, found = len(net[1]), rests_by_all(net)
            self.assertEqual({least_rest(net)}, stops_by_all(net, (0,) * many))
            self.assertEqual({greatest_rest(net)}, stops_by_all(net, (1,) * many))
            self.assertEqual([least_rest(net=net) in found, greatest_rest(net=net) in found], [True, True])
            for rest in found:
                self.assertLessEqual(set(on_in(least_rest(net))), set(on_in(rest)))
                self.assertLessEqual(set(on_in(rest)), set(on_in(greatest_rest(net))))

    def test_the_least_rest_of_two(self):
        told = 0
        for net in NETS:
            found = rests_by_all(net)
            for one in found:
                for other in found:
                    both = set(on_in(one)) | set(on_in(other))
                    above = [rest for rest in found if both <= set(on_in(rest))]
                    due = min(above, key=lambda rest: len(on_in(rest)))
                    self.assertEqual(repr(rest_above(net, one, other)), repr(due))
                    self.assertEqual(repr(rest_above(net=net, state=other, other=one)), repr(due))
                    self.assertTrue(all(set(on_in(due)) <= set(on_in(rest)) for rest in above))
                    self.assertEqual(stops_by_all(net, just(both, len(one))), {due})
                    told += due not in (one, other)
        self.assertLess(0, told)

    def test_a_rest_above_both_that_is_neither(self):
        one, other = (1, 1, 0, 0, 0), (0, 0, 0, 1, 1)
        self.assertEqual([rest_above(ARCH, one, other), rest_above(ARCH, other, one)], [(1,) * 5] * 2)
        self.assertEqual([rest_above(ARCH, one, one), rest_above(ARCH, one, (0,) * 5)], [one, one])

    def test_known_rests(self):
        self.assertEqual([least_rest(SHY), greatest_rest(SHY), least_rest(BOLD), greatest_rest(BOLD)],
                         [(0,), (0,), (1,), (1,)])
        self.assertEqual([least_rest(quiet(8)), greatest_rest(quiet(8))], [(0,) * 8] * 2)
        self.assertEqual([rest_above(SHY, (0,), (0,)), rest_above(BOLD, (1,), (1,))], [(0,), (1,)])
        self.assertEqual(len(rests(PALS)), 2)
        self.assertIs(is_rest(PALS, least_rest(PALS)), True)


class Wrong(unittest.TestCase):
    def test_nets_with_a_weight_below_nought(self):
        for net in HINDERED + [CHASE, WHEEL]:
            for call in (stubborn_lots, least_seeds, fewest, least_rest, greatest_rest):
                assert_refused(self, NotHelping, None, None, call, (net,))
            for call in (spread, does_light):
                assert_refused(self, NotHelping, None, None, call, (net, ()))
                assert_refused(self, NotHelping, None, None, call, (net, (0,)))
            assert_refused(self, NotHelping, None, None, is_stubborn, (net, (0,)))
            for rest in rests_by_all(net)[:1]:
                assert_refused(self, NotHelping, None, None, rest_above, (net, rest, rest))

    def test_wrong_nets(self):
        for value in wrong_nets():
            for call in (is_helping, stubborn_lots, least_seeds, fewest, least_rest, greatest_rest):
                assert_refused(self, InvalidNet, "given", value, call, (value,))
            for call in (spread, does_light, is_stubborn):
                assert_refused(self, InvalidNet, "given", value, call, (value, None))
            assert_refused(self, InvalidNet, "given", value, rest_above, (value, None, None))

    def test_wrong_lots_come_ahead_of_nets_that_are_not_helping(self):
        for net in (SHY, PALS, TURN, CHASE, WHEEL, quiet(8)):
            for value, index in wrong_lots(len(net[1])):
                for call in (spread, does_light, is_stubborn):
                    assert_refused(self, InvalidLot, "index", index, call, (net, value))
            assert_refused(self, InvalidLot, "index", None, is_stubborn, (net, ()))

    def test_wrong_rests_come_ahead_of_nets_that_are_not_helping(self):
        hindered = net_from([[0, -1], [-1, 0]], ["-1/2", "-1/2"])
        for net in (SHY, BOLD, PALS, TURN, hindered):
            right = rests_by_all(net)[0]
            for value in wrong_rests(net):
                assert_refused(self, InvalidState, "given", value, rest_above, (net, value, right))
                assert_refused(self, InvalidState, "given", value, rest_above, (net, value, ()))
                assert_refused(self, InvalidState, "given", value, rest_above, (net, right, value))

    def test_parameters_have_the_names_of_the_document(self):
        for call, names in ((is_helping, "net"), (spread, "net seeds"), (does_light, "net seeds"),
                            (is_stubborn, "net lot"), (stubborn_lots, "net"), (least_seeds, "net"), (fewest, "net"),
                            (least_rest, "net"), (greatest_rest, "net"), (rest_above, "net state other")):
            assert_signature(self, call, names)


if __name__ == "__main__":
    unittest.main()
