"""Point [32]."""
import random
import unittest
from fractions import Fraction
from itertools import combinations

from heednets.deeds import turned
from heednets.errors import InvalidPictures
from heednets.made import net_of
from heednets.nets import is_net
from heednets.scales import is_even
from tests.helper import (ALIKE, LESS, NIL, STAIRS, UNLIKE, Alike, Touchy, assert_refused, assert_signature, flipped,
                          hears, number, random_pictures, states_of, wants, wrong_pictures)
from tests.second import led_by_all, net_of_by_all, number_by_all


def sample_pictures(seed, times):
    rng = random.Random(seed)
    made = [ALIKE, UNLIKE, STAIRS, ((0, 0),), ((1,) * 8,), ((0,) * 8, (1,) * 8), tuple(states_of(3))]
    for _ in range(times):
        many = rng.randint(2, 8)
        made.append(random_pictures(rng, many, rng.randint(1, min(8, 2 ** many))))
    return made


PICTURES = sample_pictures(130, 40)


def agreement(state, picture, cell):
    """How many other cells are in the state as in the picture less how many are not."""
    return sum(1 if state[j] == picture[j] else -1 for j in range(len(state)) if j != cell)


class Made(unittest.TestCase):
    def test_by_the_words(self):
        for pictures in PICTURES:
            net = net_of(pictures)
            self.assertEqual(repr(net), repr(net_of_by_all(pictures)))
            self.assertEqual(net_of(pictures=pictures), net)
            self.assertIs(is_net(net), True)
            self.assertIs(is_even(net), True)

    def test_all_pictures_of_two_and_three_cells(self):
        for many in (2, 3):
            for count in range(1, 5):
                for pictures in combinations(states_of(many), count):
                    self.assertEqual(net_of(pictures), net_of_by_all(pictures))

    def test_heard_less_mark_is_half_the_sum_of_agreements(self):
        rng = random.Random(131)
        for pictures in PICTURES:
            net, many = net_of(pictures), len(pictures[0])
            for state in rng.sample(states_of(many), 4):
                for cell in range(many):
                    total = sum(agreement(state, picture, cell) * (1 if picture[cell] else -1) for picture in pictures)
                    self.assertEqual(hears(net, cell, state) - number(net[1][cell]), Fraction(total, 2))

    def test_one_picture_alone_is_kept(self):
        for many in range(2, 9):
            for picture in states_of(many)[::7]:
                net = net_of((picture,))
                self.assertEqual(wants(net, picture), picture)

    def test_with_others_beside(self):
        kept = 0
        for pictures in PICTURES:
            net, many = net_of(pictures), len(pictures[0])
            for picture in pictures:
                sums = [sum(agreement(picture, other, cell) * (1 if other[cell] else -1)
                            for other in pictures if other != picture) * (1 if picture[cell] else -1)
                        for cell in range(many)]
                if min(sums) > -(many - 1):
                    self.assertEqual(wants(net, picture), picture)
                    kept += len(pictures) > 1
        self.assertLess(8, kept)

    def test_two_cells_that_are_alike_in_all_or_unlike_in_all(self):
        for sign, twin in ((1, lambda picture: picture[:1]), (-1, lambda picture: (1 - picture[0],))):
            for pictures in PICTURES[7:]:
                grown = tuple(sorted((picture[:7] + twin(picture) for picture in pictures), key=number_by_all))
                if len(set(grown)) == len(grown):
                    rows = net_of(grown)[0]
                    last = len(grown[0]) - 1
                    for other in range(1, last):
                        self.assertEqual(number(rows[0][other]), sign * number(rows[last][other]))

    def test_turned_it_has_the_weights_of_the_pictures_led_along(self):
        rng = random.Random(132)
        for pictures in PICTURES:
            many = len(pictures[0])
            lot = tuple(sorted(rng.sample(range(many), rng.randint(0, many))))
            along = sorted((led_by_all(("turn", lot), picture) for picture in pictures), key=number_by_all)
            self.assertEqual(turned(net_of(pictures), lot)[0], net_of(tuple(along))[0])

    def test_known_nets(self):
        self.assertEqual(net_of(((1, 0),)), (((NIL, LESS), (LESS, NIL)), ((-1, 2), (-1, 2))))
        self.assertEqual(net_of(UNLIKE), (((NIL, NIL), (NIL, NIL)), (NIL, NIL)))
        self.assertEqual(net_of(((0,) * 8,))[1], ((7, 2),) * 8)
        # A cell that is off from the picture, beside others as in it, wants back.
        for picture in states_of(4):
            for cell in range(4):
                self.assertEqual(wants(net_of((picture,)), flipped(picture, cell))[cell], picture[cell])


class Wrong(unittest.TestCase):
    def test_wrong_pictures(self):
        for many in (2, 3, 8):
            for value, index in wrong_pictures(many):
                assert_refused(self, InvalidPictures, "index", index, net_of, (value,))

    def test_pictures_of_one_cell_of_nine_and_of_unlike_lengths(self):
        dark = (0, 0)
        for value, index in ((((0,),), 0), (((1,),), 0), (((0,), (1,)), 0), (((),), 0), (((0,) * 9,), 0),
                             (((0,) * 9, (1,) * 9), 0), ((dark, (1, 1, 1)), 1), (((0, 0, 0), (1, 1)), 1),
                             ((dark, (1,)), 1), ((dark, (1, 1), (0, 0, 0, 1)), 2), (((0,), dark), 0), ((), None),
                             (tuple(states_of(4)[:9]), None), ([dark], None), ((dark, dark), 1),
                             (((0, 1), (1, 0)), 1), ((dark, [1, 1]), 1), (((0, True),), 0), ((dark, (1, 2)), 1),
                             ((Alike(),), 0), ((dark, Alike()), 1), ((dark, Touchy()), 1), ((dark, (1, Alike())), 1),
                             (("00",), 0), ((dark, "11"), 1)):
            assert_refused(self, InvalidPictures, "index", index, net_of, (value,))

    def test_eight_pictures(self):
        pictures = tuple(states_of(4)[:8])
        self.assertEqual(net_of(pictures), net_of_by_all(pictures))

    def test_parameters_have_the_names_of_the_document(self):
        assert_signature(self, net_of, "pictures")


if __name__ == "__main__":
    unittest.main()
