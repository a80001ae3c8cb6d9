"""Point [21], and "Pictures" in [2]."""
import unittest
from itertools import combinations

from heednets.errors import InvalidCell, InvalidPictures
from heednets.fences import any_net, fence, two_mixes
from heednets.keeping import does_keep, keeping_net
from heednets.nets import is_net
from heednets.ratios import is_fraction
from tests.helper import (ALIKE, GREAT, HALF, LOPSIDED, NIL, ONE, STAIRS, UNLIKE, assert_refused, assert_signature,
                          keeps_by_all, number, sample_pictures, states_of, wrong_cells, wrong_pictures)

PICTURES = sample_pictures(60, 60)
FEW = [told for many in (1, 2, 3) for count in range(1, 9) for told in combinations(states_of(many), count)]


def is_fence(pictures, cell, value):
    weights, mark = value
    many = len(pictures[0])
    if not (isinstance(weights, tuple) and len(weights) == many and all(is_fraction(part) for part in weights)):
        return False
    if weights[cell] != NIL or not is_fraction(mark):
        return False
    return all((sum(number(weights[k]) for k in range(many) if picture[k] == 1) > number(mark)) == (picture[cell] == 1)
               for picture in pictures)


def are_mixes(pictures, cell, value):
    ons, offs = value
    for shares, due in ((ons, 1), (offs, 0)):
        if not (isinstance(shares, tuple) and len(shares) == len(pictures) and all(is_fraction(s) for s in shares)):
            return False
        if sum(map(number, shares)) != 1 or min(map(number, shares)) < 0:
            return False
        if any(share != NIL and picture[cell] != due for share, picture in zip(shares, pictures)):
            return False
    means = [[sum(number(share) * picture[other] for share, picture in zip(shares, pictures))
              for other in range(len(pictures[0])) if other != cell] for shares in (ons, offs)]
    return means[0] == means[1]


class Fences(unittest.TestCase):
    def test_just_one_of_a_fence_and_two_mixes(self):
        told = {True: 0, False: 0}
        for pictures in PICTURES + FEW:
            for cell in range(len(pictures[0])):
                found, mixes = fence(pictures, cell), two_mixes(pictures, cell)
                if found is None:
                    self.assertTrue(are_mixes(pictures, cell, mixes), (pictures, cell, mixes))
                else:
                    self.assertIs(mixes, None)
                    self.assertTrue(is_fence(pictures, cell, found), (pictures, cell, found))
                self.assertEqual(fence(pictures=pictures, cell=cell), found)
                self.assertEqual(two_mixes(pictures=pictures, cell=cell), mixes)
                told[found is None] += 1
        self.assertLess(100, min(told.values()))

    def test_a_cell_alike_in_all_pictures_has_one(self):
        for pictures in PICTURES:
            for cell in range(len(pictures[0])):
                if len({picture[cell] for picture in pictures}) == 1:
                    self.assertTrue(is_fence(pictures, cell, fence(pictures, cell)))
                    self.assertIs(two_mixes(pictures, cell), None)

    def test_one_picture_alone(self):
        for many in range(1, 9):
            for picture in ((0,) * many, (1,) * many, (1,) + (0,) * (many - 1)):
                for cell in range(many):
                    self.assertTrue(is_fence((picture,), cell, fence((picture,), cell)))

    def test_two_that_differ_in_one_cell(self):
        pictures = ((0, 1, 0, 1), (1, 1, 0, 1))
        self.assertEqual([fence(pictures, 0), two_mixes(pictures, 0)], [None, ((NIL, ONE), (ONE, NIL))])
        for cell in (1, 2, 3):
            self.assertTrue(is_fence(pictures, cell, fence(pictures, cell)))
        self.assertEqual(two_mixes(((0,), (1,)), 0), ((NIL, ONE), (ONE, NIL)))

    def test_mixes_of_several_pictures(self):
        # Cell 0 is on where both others are alike.
        pictures = ((1, 0, 0), (0, 1, 0), (0, 0, 1), (1, 1, 1))
        self.assertEqual(two_mixes(pictures, 0), ((HALF, NIL, NIL, HALF), (NIL, HALF, HALF, NIL)))
        self.assertIs(fence(pictures, 0), None)

    def test_pictures_where_fences_are_close(self):
        for pictures in (LOPSIDED, GREAT, ALIKE):
            for cell in range(len(pictures[0])):
                self.assertTrue(is_fence(pictures, cell, fence(pictures, cell)))
        # From step to step just one cell changes.
        for cell in range(7):
            self.assertTrue(are_mixes(STAIRS, cell, two_mixes(STAIRS, cell)))
        self.assertIs(two_mixes(STAIRS, 7), None)


class AnyNet(unittest.TestCase):
    def test_exactly_if_each_cell_has_a_fence(self):
        told = {True: 0, False: 0}
        for pictures in PICTURES + FEW:
            net = any_net(pictures)
            due = all(fence(pictures, cell) is not None for cell in range(len(pictures[0])))
            self.assertEqual(net is not None, due)
            if net is not None:
                self.assertIs(is_net(net), True)
                self.assertTrue(keeps_by_all(net, pictures))
                self.assertIs(does_keep(net, pictures), True)
            if keeping_net(pictures) is not None:
                self.assertIsNot(net, None)
            self.assertEqual(any_net(pictures=pictures), net)
            told[due] += 1
        self.assertLess(40, min(told.values()))

    def test_some_net_but_none_with_scales(self):
        for pictures in (LOPSIDED, GREAT):
            self.assertTrue(keeps_by_all(any_net(pictures), pictures))
            self.assertIs(keeping_net(pictures), None)

    def test_no_net_at_all(self):
        for pictures in (UNLIKE, STAIRS, ((0,), (1,)), tuple(states_of(3))):
            self.assertIs(any_net(pictures), None)


class Wrong(unittest.TestCase):
    def test_wrong_pictures(self):
        for many in (1, 2, 3, 8):
            for value, index in wrong_pictures(many):
                assert_refused(self, InvalidPictures, "index", index, any_net, (value,))
                for call in (fence, two_mixes):
                    assert_refused(self, InvalidPictures, "index", index, call, (value, None))
                    assert_refused(self, InvalidPictures, "index", index, call, (value, 0))

    def test_wrong_cells(self):
        for pictures in (((0,), (1,)), ALIKE, GREAT, ((1, 0, 1),)):
            for value in wrong_cells(len(pictures[0])):
                for call in (fence, two_mixes):
                    assert_refused(self, InvalidCell, "given", value, call, (pictures, value))

    def test_parameters_have_the_names_of_the_document(self):
        for call, names in ((fence, "pictures cell"), (two_mixes, "pictures cell"), (any_net, "pictures")):
            assert_signature(self, call, names)


if __name__ == "__main__":
    unittest.main()
