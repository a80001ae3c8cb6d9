"""Points [18] to [20], and "Pictures" in [2]."""
import random
import unittest
from fractions import Fraction
from itertools import combinations

from heednets.errors import InvalidNet, InvalidPictures
from heednets.keeping import bound_of, does_keep, keeping_net, margin, widest
from heednets.scales import is_even
from tests.helper import (ALIKE, BOLD, CHASE, GREAT, HALF, LOPSIDED, NIL, ONE, PALS, SHY, STAIRS, STRANGE, UNLIKE,
                          WHEEL, Alike, Touchy, are_blames_by_all, assert_refused, assert_signature,
                          bound_by_all, keeps_by_all, lifted_by_all, margin_by_all, net_from, number, pair, quiet,
                          random_pictures, sample_nets, sample_pictures, states_of, wrong_nets,
                          wrong_pictures)

NETS = sample_nets(50, 20)
PICTURES = sample_pictures(51, 60)
QUARTER = (1, 4)


def few_pictures():
    """All pictures of one to three cells."""
    return [told for many in (1, 2, 3) for count in range(1, 9) for told in combinations(states_of(many), count)]


def is_mild(net):
    return is_even(net) and all(-1 <= number(heed) <= 1 for row in net[0] for heed in row)


def random_even(rng, many, low, high):
    """An even net with weights from here to there, in halves."""
    ties = {(i, j): Fraction(rng.randint(2 * low, 2 * high), 2) for j in range(many) for i in range(j)}
    return net_from([[0 if i == j else ties[min(i, j), max(i, j)] for j in range(many)] for i in range(many)],
                    [Fraction(rng.randint(-2, 1), 2) for _ in range(many)])


def as_numbers(blames):
    return [[number(blame) for blame in row] for row in blames]


def random_blames(rng, pictures):
    """Blames of a cell in pairs of pictures, in one of which it is on, weighed by chance."""
    rows = [[Fraction(0)] * len(pictures[0]) for _ in pictures]
    for cell in range(len(pictures[0])):
        for at, one in enumerate(pictures):
            for there, other in enumerate(pictures):
                if one[cell] == 1 and other[cell] == 0 and rng.random() < 0.5:
                    weight = rng.randint(1, 5)
                    rows[at][cell] += weight
                    rows[there][cell] += weight
    total = sum(map(sum, rows))
    return [[blame / total for blame in row] for row in rows] if total else None


class Keeping(unittest.TestCase):
    def test_does_keep_and_margin_by_the_words(self):
        rng = random.Random(52)
        told = {True: 0, False: 0}
        for net in NETS:
            many = len(net[1])
            for _ in range(6):
                pictures = random_pictures(rng, many, rng.randint(1, min(8, 2 ** many)))
                due = keeps_by_all(net, pictures)
                self.assertIs(does_keep(net, pictures), due)
                self.assertIs(does_keep(net=net, pictures=pictures), due)
                least = margin_by_all(net, pictures)
                self.assertEqual(repr(margin(net, pictures)), repr(pair(least)))
                self.assertEqual(margin(net=net, pictures=pictures), pair(least))
                told[due] += 1
                if least > 0:
                    self.assertIs(does_keep(net, pictures), True)
                if due:
                    lifted = (net[0], tuple(pair(mark) for mark in lifted_by_all(net)))
                    self.assertGreater(number(margin(lifted, pictures)), 0)
        self.assertLess(20, min(told.values()))

    def test_heard_that_just_meets_the_mark(self):
        # Off is kept then, on is not; the margin is nought for both.
        for net, picture in ((quiet(1), (0,)), (quiet(1), (1,))):
            self.assertEqual([does_keep(net, (picture,)), margin(net, (picture,))], [picture == (0,), NIL])

    def test_one_cell(self):
        self.assertEqual([margin(SHY, ((0,),)), margin(SHY, ((1,),)), margin(BOLD, ((0,), (1,)))],
                         [HALF, (-1, 2), (-1, 2)])
        self.assertEqual([does_keep(SHY, ((0,),)), does_keep(SHY, ((0,), (1,)))], [True, False])

    def test_the_least_margin_over_pictures_and_cells(self):
        net = net_from([[0, 2], [3, 0]], ["1/2", 1])
        self.assertEqual([margin(net, ALIKE), margin(net, ((0, 0),)), margin(net, ((1, 1),))], [HALF, HALF, (3, 2)])
        self.assertEqual([margin(CHASE, ((0, 1),)), margin(WHEEL, ((0, 0, 0),))], [(-1, 2), (-1, 2)])


class Bounds(unittest.TestCase):
    def test_bounds_by_their_sums(self):
        rng = random.Random(53)
        told = 0
        for pictures in PICTURES + few_pictures()[::7]:
            rows = random_blames(rng, pictures)
            if rows is None:
                continue
            self.assertTrue(are_blames_by_all(pictures, rows))
            blames = tuple(tuple(pair(blame) for blame in row) for row in rows)
            due = repr(pair(bound_by_all(pictures, rows)))
            self.assertEqual(repr(bound_of(pictures, blames)), due)
            self.assertEqual(repr(bound_of(pictures=pictures, blames=blames)), due)
            told += 1
        self.assertLess(60, told)

    def test_no_mild_net_has_a_margin_above_the_bound(self):
        rng = random.Random(54)
        for pictures in PICTURES:
            rows = random_blames(rng, pictures)
            if rows is None:
                continue
            many = len(pictures[0])
            for _ in range(5):
                net = random_even(rng, many, -1, 1)
                self.assertTrue(is_mild(net))
                self.assertLessEqual(margin_by_all(net, pictures), bound_by_all(pictures, rows))

    def test_known_bounds(self):
        self.assertEqual(bound_of(ALIKE, ((QUARTER, QUARTER), (QUARTER, QUARTER))), HALF)
        self.assertEqual(bound_of(ALIKE, ((HALF, NIL), (HALF, NIL))), HALF)
        self.assertEqual(bound_of(((0,), (1,)), ((HALF,), (HALF,))), NIL)
        self.assertEqual(bound_of(((0, 1), (1, 1)), ((HALF, NIL), (HALF, NIL))), NIL)

    def test_values_that_are_no_blames(self):
        right = ((QUARTER, QUARTER), (QUARTER, QUARTER))
        self.assertEqual(bound_of(ALIKE, right), HALF)
        eighth = (1, 8)
        for value in STRANGE + (
                (), right[:1], right + ((NIL, NIL),), list(right), (list(right[0]), right[1]), (right[0], right[1][:1]),
                (right[0], right[1] + (NIL,)), ((NIL, NIL), (NIL, NIL)), ((eighth, eighth), (eighth, eighth)),
                ((HALF, HALF), (HALF, HALF)), ((ONE, NIL), (NIL, NIL)), ((HALF, NIL), (NIL, HALF)),
                (((3, 4), (-1, 4)), ((3, 4), (-1, 4))), (((2, 8), QUARTER), right[1]), ((QUARTER, QUARTER), (0, 0)),
                ((QUARTER, [1, 4]), right[1]), ((QUARTER, (True, 4)), right[1]), ((QUARTER, (1, -4)), right[1]),
                ((QUARTER, (1, 0)), right[1]), ((QUARTER, None), right[1]), ((QUARTER, 1), right[1]), (None, right[1]),
                (((1, 3), (1, 6)), (QUARTER, QUARTER)), ((NIL, NIL), (HALF, HALF)), (Alike(), Alike()),
                ((Touchy(), QUARTER), right[1]), (((Touchy(), 4), QUARTER), right[1]), Alike(), Touchy()):
            self.assertIs(bound_of(ALIKE, value), None, value)
            self.assertIs(bound_of(pictures=ALIKE, blames=value), None)

    def test_one_picture_alone_has_none(self):
        for value in (((ONE, NIL),), ((NIL, NIL),), ((HALF, HALF),), (), None):
            self.assertIs(bound_of(((0, 1),), value), None)

    def test_numbers_of_many_figures(self):
        great = 2 * 10 ** 390 + 1
        part, rest = (1, 2 * great), pair(Fraction(great - 1, 2 * great))
        self.assertEqual(bound_of(ALIKE, ((part, rest), (part, rest))), HALF)
        self.assertIs(bound_of(ALIKE, ((part, rest), (rest, part))), None)


class Widest(unittest.TestCase):
    def check(self, pictures):
        best, net, blames = widest(pictures)
        self.assertTrue(is_mild(net))
        self.assertEqual(repr(best), repr(pair(margin_by_all(net, pictures))))
        self.assertTrue(are_blames_by_all(pictures, as_numbers(blames)))
        self.assertEqual(number(best), bound_by_all(pictures, as_numbers(blames)))
        self.assertEqual([margin(net, pictures), bound_of(pictures, blames)], [best, best])
        self.assertGreaterEqual(best[0], 0)
        self.assertEqual(widest(pictures=pictures), (best, net, blames))
        return best

    def test_a_net_and_blames_that_meet(self):
        zero = 0
        for pictures in PICTURES + few_pictures():
            if len(pictures) > 1:
                zero += self.check(pictures) == NIL
        self.assertLess(20, zero)

    def test_eight_pictures_of_eight_cells(self):
        rng = random.Random(55)
        for _ in range(10):
            self.check(random_pictures(rng, 8, 8))

    def test_known_margins(self):
        self.assertEqual([widest(told)[0] for told in (ALIKE, UNLIKE, ((0,), (1,)), LOPSIDED, GREAT, STAIRS)],
                         [HALF, NIL, NIL, NIL, NIL, NIL])
        # Two that are unlike in all cells: each cell hears the others as far apart as weights let it.
        for many in range(2, 9):
            self.assertEqual(widest(((0,) * many, (1,) * many))[0], pair(Fraction(many - 1, 2)))
        # Just one cell on at a time: each one that is on holds the others off.
        self.assertEqual(widest(((1, 0, 0), (0, 1, 0), (0, 0, 1)))[0], HALF)

    def test_two_that_differ_in_one_cell(self):
        for pictures in (((0, 1, 0, 1), (1, 1, 0, 1)), ((0,), (1,)), ((1,) * 7 + (0,), (1,) * 8)):
            self.assertEqual(widest(pictures)[0], NIL)
            self.assertIs(keeping_net(pictures), None)

    def test_a_cell_alike_in_all_pictures(self):
        for more in (0, 1):
            pictures = tuple(picture + (more, more) for picture in ALIKE)
            best, net, blames = widest(pictures)
            self.assertEqual(best, HALF)
            self.assertEqual([row[2:] for row in blames], [(NIL, NIL), (NIL, NIL)])
            self.assertTrue(keeps_by_all(net, pictures))


class KeepingNet(unittest.TestCase):
    def test_just_one_of_a_net_and_blames_with_the_bound_nought(self):
        told = {True: 0, False: 0}
        for pictures in PICTURES + few_pictures():
            net = keeping_net(pictures)
            if net is not None:
                self.assertIs(is_even(net), True)
                self.assertTrue(keeps_by_all(net, pictures))
                self.assertIs(does_keep(net, pictures), True)
            if len(pictures) > 1:
                self.assertEqual(net is None, widest(pictures)[0] == NIL)
            else:
                self.assertIsNot(net, None)
            self.assertEqual(keeping_net(pictures=pictures), net)
            told[net is None] += 1
        self.assertLess(40, min(told.values()))

    def test_one_picture_alone(self):
        for many in range(1, 9):
            for picture in states_of(many)[::5]:
                net = keeping_net((picture,))
                self.assertTrue(keeps_by_all(net, (picture,)))
                self.assertIs(is_even(net), True)

    def test_rests_of_even_nets_are_kept(self):
        rng = random.Random(56)
        found = 0
        for _ in range(60):
            many = rng.randint(3, 6)
            net = random_even(rng, many, -3, 0)
            pictures = tuple(state for state in states_of(many) if keeps_by_all(net, (state,)))[:8]
            self.assertTrue(keeps_by_all(keeping_net(pictures), pictures))
            found += len(pictures) > 2
        self.assertLess(5, found)

    def test_none_with_scales(self):
        for pictures in (UNLIKE, LOPSIDED, GREAT, ((0,), (1,))):
            self.assertIs(keeping_net(pictures), None)


class Wrong(unittest.TestCase):
    def test_wrong_nets(self):
        for value in wrong_nets():
            for call in (does_keep, margin):
                assert_refused(self, InvalidNet, "given", value, call, (value, None))

    def test_wrong_pictures_of_a_net(self):
        for net in (SHY, PALS, WHEEL, quiet(4), quiet(8)):
            for value, index in wrong_pictures(len(net[1])):
                for call in (does_keep, margin):
                    assert_refused(self, InvalidPictures, "index", index, call, (net, value))

    def test_pictures_of_another_number_of_cells_than_the_net(self):
        for call in (does_keep, margin):
            assert_refused(self, InvalidPictures, "index", 0, call, (PALS, ((0, 0, 0), (1, 1, 1))))
            assert_refused(self, InvalidPictures, "index", 0, call, (PALS, ((0,),)))
            assert_refused(self, InvalidPictures, "index", 1, call, (PALS, ((0, 0), (1, 1, 1))))

    def test_wrong_pictures(self):
        for many in (1, 2, 3, 8):
            for value, index in wrong_pictures(many):
                assert_refused(self, InvalidPictures, "index", index, keeping_net, (value,))
                assert_refused(self, InvalidPictures, "index", index, bound_of, (value, None))
                one = isinstance(value, tuple) and len(value) == 1
                assert_refused(self, InvalidPictures, "index", None if one else index, widest, (value,))

    def test_one_picture_alone_has_no_widest_margin(self):
        for picture in ((0,), (1, 1), (0,) * 8, (), None):
            assert_refused(self, InvalidPictures, "index", None, widest, ((picture,),))

    def test_eight_pictures_and_nine(self):
        states = tuple(states_of(4))
        self.assertIs(keeping_net(states[:8]), None)
        self.assertEqual(widest(states[8:])[0], NIL)
        for call in (keeping_net, widest):
            assert_refused(self, InvalidPictures, "index", None, call, (states[:9],))
        assert_refused(self, InvalidPictures, "index", None, does_keep, (quiet(4), states[:9]))

    def test_parameters_have_the_names_of_the_document(self):
        for call, names in ((does_keep, "net pictures"), (margin, "net pictures"), (bound_of, "pictures blames"),
                            (widest, "pictures"), (keeping_net, "pictures")):
            assert_signature(self, call, names)


if __name__ == "__main__":
    unittest.main()
