"""Point [9], and "alike both ways" in [2]."""
import unittest
from fractions import Fraction

from heednets.errors import InvalidNet
from heednets.scales import are_scales, is_even, scales_or_against, speaks_against
from tests.helper import (BOLD, CHASE, HALF, LAME, LESS, NIL, ONE, PALS, SHY, STRANGE, TURN, TWO, WHEEL, Alike, Touchy,
                          all_rings, assert_refused, assert_signature, fits_scales, net_from, number, pair,
                          pair_speaks, quiet, ring_speaks, sample_nets, scales_of, something_speaks, wrong_nets)

NETS = sample_nets(10, 60, most=4) + sample_nets(11, 10, most=5)
# Two parts that do not hang together, with cells of both in turn: 0, 2, 4 and 1, 3.
PARTED = net_from([[0, 0, 3, 0, 0], [0, 0, 0, -2, 0], [1, 0, 0, 0, 2], [0, "-1/2", 0, 0, 0], [0, 0, 5, 0, 0]], [0] * 5)


class ScalesOrAgainst(unittest.TestCase):
    def test_just_one_of_all_and_it_is_so(self):
        words = []
        for net in NETS:
            word, told = scales_or_against(net)
            words.append(word)
            due = scales_of(net)
            if due is not None:
                self.assertEqual(repr((word, told)), repr(("scales", tuple(pair(scale) for scale in due))))
                self.assertTrue(fits_scales(net, due))
                self.assertIs(are_scales(net, told), True)
            elif word == "pair":
                self.assertTrue(pair_speaks(net, *told))
            else:
                self.assertEqual(word, "ring")
                self.assertIn(told, all_rings(net))
                self.assertTrue(ring_speaks(net, told))
            if due is None:
                self.assertIs(speaks_against(net, (word, told)), True)
        self.assertEqual(sorted(set(words)), ["pair", "ring", "scales"])

    def test_one_cell_alone(self):
        for net in (SHY, BOLD):
            self.assertEqual(scales_or_against(net), ("scales", (ONE,)))

    def test_several_parts_each_begin_with_one(self):
        self.assertEqual(scales_or_against(PARTED), ("scales", (ONE, ONE, (3, 1), (4, 1), (6, 5))))
        self.assertEqual(scales_or_against(quiet(8)), ("scales", (ONE,) * 8))

    def test_a_pair_with_unlike_signs(self):
        for heed, back in ((ONE, LESS), (LESS, ONE), (ONE, NIL), (NIL, ONE), (NIL, LESS), (LESS, NIL)):
            net = (((NIL, heed), (back, NIL)), (HALF, HALF))
            self.assertEqual(scales_or_against(net), ("pair", (0, 1)))
        self.assertEqual(scales_or_against((((NIL, LESS), ((-3, 1), NIL)), (HALF, HALF))), ("scales", (ONE, (1, 3))))

    def test_rings_of_three_and_more(self):
        for many in range(3, 9):
            rows = [[0] * many for _ in range(many)]
            for cell in range(many):
                rows[cell][(cell + 1) % many] = 2
                rows[(cell + 1) % many][cell] = 3
            net = net_from(rows, [0] * many)
            word, told = scales_or_against(net)
            self.assertEqual((word, len(told)), ("ring", many))
            self.assertTrue(ring_speaks(net, told))
            # With as many twos and threes both ways it has scales.
            rows[many - 1][0], rows[0][many - 1] = 3 ** (many - 1), 2 ** (many - 1)
            self.assertEqual(scales_or_against(net_from(rows, [0] * many))[0], "scales")

    def test_a_ring_far_from_the_first_cell(self):
        # Cells 0, 1, 2 are a way, 3, 4, 5, 6 a ring at its end, where heeds for the one behind are twice the others.
        rows = [[0] * 7 for _ in range(7)]
        for one, other in ((0, 1), (1, 2), (2, 3)):
            rows[one][other] = rows[other][one] = -1
        for one, other in ((3, 4), (4, 5), (5, 6), (6, 3)):
            rows[one][other], rows[other][one] = 2, 1
        net = net_from(rows, [0] * 7)
        word, told = scales_or_against(net)
        self.assertEqual((word, sorted(told)), ("ring", [3, 4, 5, 6]))
        self.assertTrue(ring_speaks(net, told))

    def test_a_ring_of_unlike_signs_both_ways(self):
        net = net_from([[0, -1, 1], [-1, 0, 2], [1, 1, 0]], [0, 0, 0])
        word, told = scales_or_against(net)
        self.assertEqual(word, "ring")
        self.assertTrue(ring_speaks(net, told))

    def test_numbers_of_many_figures(self):
        great = 10 ** 399 + 7
        net = net_from([[0, great, 0], [1, 0, great + 1], [0, great - 1, 0]], [0, 0, 0])
        word, told = scales_or_against(net)
        self.assertEqual(word, "scales")
        self.assertTrue(fits_scales(net, [number(scale) for scale in told]))
        self.assertIs(are_scales(net, told), True)

    def test_equal_calls_return_equal_results(self):
        for net in NETS:
            self.assertEqual(scales_or_against(net), scales_or_against(net=net))


class AreScales(unittest.TestCase):
    def test_scales_times_a_number_for_each_part(self):
        told = scales_or_against(PARTED)[1]
        for first in (Fraction(1), Fraction(1, 7), Fraction(5)):
            for second in (Fraction(1), Fraction(2, 3)):
                times = (first, second, first, second, first)
                value = tuple(pair(number(scale) * by) for scale, by in zip(told, times))
                self.assertIs(are_scales(PARTED, value), True)
        self.assertIs(are_scales(PARTED, (TWO,) + told[1:]), False)
        self.assertIs(are_scales(PARTED, told[:4] + (ONE,)), False)

    def test_as_by_the_words(self):
        some = [(1, 1), (2, 1), (1, 2), (3, 2), (0, 1), (-1, 1), (-2, 1)]
        for net in (PALS, LAME, CHASE, quiet(2), net_from([[0, -3], [-2, 0]], [0, 0])):
            for first in some:
                for second in some:
                    due = fits_scales(net, [number(first), number(second)])
                    self.assertIs(are_scales(net, (first, second)), due)

    def test_values_that_are_none(self):
        for value in STRANGE + ((), (ONE,), (ONE, ONE, ONE), [ONE, ONE], (ONE, [1, 1]), (ONE, 1), (1, 1), (ONE, None),
                                (ONE, (2, 2)), ((2, 2), (2, 2)), (ONE, (True, 1)), (ONE, (1, True)), (ONE, (1, 0)),
                                (NIL, NIL), (LESS, LESS), (ONE, TWO), (ONE, (-1, -1)), ("scales", (ONE, ONE)),
                                ((0, 0), (0, 0))):
            self.assertIs(are_scales(PALS, value), False, value)
            self.assertIs(are_scales(net=PALS, value=value), False)
        self.assertIs(are_scales(PALS, (TWO, TWO)), True)
        self.assertIs(are_scales(SHY, ((3, 7),)), True)
        self.assertIs(are_scales(SHY, (NIL,)), False)

    def test_is_even(self):
        for net in NETS + [quiet(8)]:
            many = len(net[1])
            due = all(net[0][i][j] == net[0][j][i] for i in range(many) for j in range(many))
            self.assertIs(is_even(net), due)
            self.assertIs(is_even(net), are_scales(net, (ONE,) * many))
        self.assertEqual([is_even(PALS), is_even(LAME), is_even(CHASE), is_even(SHY)], [True, False, False, True])


class SpeaksAgainst(unittest.TestCase):
    def test_pairs_and_rings_as_by_the_words(self):
        for net in NETS:
            many = len(net[1])
            for i in range(many):
                for j in range(many):
                    self.assertIs(speaks_against(net, ("pair", (i, j))), pair_speaks(net, i, j))
            for cells in all_rings(net):
                self.assertIs(speaks_against(net, ("ring", cells)), ring_speaks(net, cells))

    def test_a_pair_is_told_with_the_lesser_cell_first(self):
        self.assertIs(speaks_against(CHASE, ("pair", (0, 1))), True)
        self.assertIs(speaks_against(CHASE, ("pair", (1, 0))), False)

    def test_a_ring_may_be_told_from_any_cell_and_either_way(self):
        for cells in all_rings(TURN):
            self.assertIs(speaks_against(TURN, ("ring", cells)), True)

    def test_a_ring_needs_heeds_both_ways(self):
        self.assertIs(speaks_against(WHEEL, ("ring", (0, 1, 2))), False)
        self.assertIs(speaks_against(net_from([[0, 0, 1], [1, 0, 1], [1, 1, 0]], [0] * 3), ("ring", (0, 1, 2))), False)

    def test_values_that_are_none(self):
        for value in STRANGE + (("ring",), ("ring", (0, 1, 2), ()), ["ring", (0, 1, 2)], ("ring", [0, 1, 2]),
                                ("ring", (0, 1, 3)), ("ring", (0, 1, -1)), ("ring", (0, 1, 2, 0)), ("ring", ()),
                                ("ring", (0, 1, 2, 0, 1, 2)), ("ring", (0, 0, 1)), ("ring", (0, 1)), ("ring", (0,)),
                                ("ring", (0, True, 2)), ("ring", (False, 1, 2)), ("ring", (0, 1, None)),
                                ("ring", ((0,), 1, 2)), ("ring", "012"), ("ring", 3), ("ring", None),
                                ("rings", (0, 1, 2)), ("pair", (0, 1, 2)), (b"ring", (0, 1, 2)), (None, (0, 1, 2)),
                                (("ring",), (0, 1, 2)), ("scales", (ONE, ONE, ONE)), (0, 1, 2), ("", (0, 1, 2))):
            self.assertIs(speaks_against(TURN, value), False, value)
            self.assertIs(speaks_against(net=TURN, value=value), False)
        for cells in ((0,), (0, 0), (1, 1), (0, 1, 1), (False, 1), (0, True), [0, 1], (0, 2), (-1, 1), (), None, "01",
                      (0, None), (None, 1), ((0, 1),)):
            self.assertIs(speaks_against(CHASE, ("pair", cells)), False, cells)
        self.assertIs(speaks_against(CHASE, ("ring", (0, 1))), False)

    def test_words_that_only_seem_to_be_alike(self):
        for word in (Alike(), Touchy()):
            self.assertIs(speaks_against(CHASE, (word, (0, 1))), False)
            self.assertIs(speaks_against(CHASE, ("pair", (word, 1))), False)
            self.assertIs(speaks_against(TURN, (word, (0, 1, 2))), False)
            self.assertIs(speaks_against(TURN, ("ring", (word, 1, 2))), False)
            self.assertIs(are_scales(PALS, (word, ONE)), False)
            self.assertIs(are_scales(PALS, ((word, 1), ONE)), False)

    def test_nothing_speaks_where_there_are_scales(self):
        for net in NETS:
            self.assertEqual(scales_or_against(net)[0] == "scales", not something_speaks(net))


class Wrong(unittest.TestCase):
    def test_wrong_nets(self):
        for value in wrong_nets():
            assert_refused(self, InvalidNet, "given", value, is_even, (value,))
            assert_refused(self, InvalidNet, "given", value, are_scales, (value, None))
            assert_refused(self, InvalidNet, "given", value, scales_or_against, (value,))
            assert_refused(self, InvalidNet, "given", value, speaks_against, (value, None))

    def test_parameters_have_the_names_of_the_document(self):
        for call, names in ((is_even, "net"), (are_scales, "net value"), (scales_or_against, "net"),
                            (speaks_against, "net value")):
            assert_signature(self, call, names)


if __name__ == "__main__":
    unittest.main()
