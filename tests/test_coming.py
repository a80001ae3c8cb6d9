"""Point [22]."""
import unittest

from heednets.coming import does_come_back, radius, row_away
from heednets.errors import InvalidNet, InvalidNumber, InvalidState
from heednets.nets import rests
from tests.helper import (BOLD, CAUGHT, CHASE, PALS, SHY, STRANGE, WHEEL, assert_refused, assert_signature, ends_by_all,
                          is_open_by_all, leads, net_from, on_a_round, quiet, reach, sample_nets, states_of, wants,
                          wrong_nets, wrong_rests)

NETS = sample_nets(70, 40, most=4) + [CAUGHT]
# Each cell wants on beside both others.
TRIO = net_from([[0, 1, 1], [1, 0, 1], [1, 1, 0]], ["3/2", "3/2", "3/2"])


def unlike(state, other):
    return sum(one != two for one, two in zip(state, other))


def comes_back_by_all(net, picture, many):
    """By all near states and all that is come to from them."""
    return all(ends_by_all(net, state) == [picture] and not is_open_by_all(net, state)
               for state in states_of(len(picture)) if unlike(state, picture) <= many)


def is_row_away(net, picture, many, value):
    if not isinstance(value, tuple) or not value or unlike(value[0], picture) > many:
        return False
    if not all(behind in leads(net, state) for state, behind in zip(value, value[1:])):
        return False
    last = value[-1]
    return (wants(net, last) == last and last != picture) or last in value[:-1]


class ComingBack(unittest.TestCase):
    def test_by_all_states(self):
        told = {True: 0, False: 0}
        for net in NETS:
            cells = len(net[1])
            for picture in rests(net):
                greatest = max(many for many in range(cells + 1) if comes_back_by_all(net, picture, many))
                self.assertEqual(repr(radius(net, picture)), repr(greatest))
                self.assertEqual(radius(net=net, picture=picture), greatest)
                for many in range(cells + 1):
                    due = comes_back_by_all(net, picture, many)
                    self.assertIs(does_come_back(net, picture, many), due)
                    self.assertIs(does_come_back(net=net, picture=picture, many=many), due)
                    row = row_away(net, picture, many)
                    self.assertEqual(row, row_away(net=net, picture=picture, many=many))
                    if due:
                        self.assertIs(row, None)
                    else:
                        self.assertTrue(is_row_away(net, picture, many, row), (net, picture, many, row))
                    told[due] += 1
        self.assertLess(50, min(told.values()))

    def test_from_none_and_from_all_cells(self):
        for net in NETS:
            for picture in rests(net):
                self.assertEqual([does_come_back(net, picture, 0), row_away(net, picture, 0)], [True, None])
        for net, picture in ((SHY, (0,)), (BOLD, (1,)), (quiet(8), (0,) * 8)):
            many = len(picture)
            self.assertEqual([radius(net, picture), does_come_back(net, picture, many), row_away(net, picture, many)],
                             [many, True, None])

    def test_a_row_of_one_state_alone(self):
        self.assertEqual(row_away(PALS, (0, 0), 2), ((1, 1),))
        self.assertEqual(row_away(TRIO, (0, 0, 0), 3), ((1, 1, 1),))
        # All is lit but one cell: this one comes on.
        self.assertEqual(row_away(TRIO, (0, 0, 0), 2)[-1], (1, 1, 1))
        self.assertEqual(len(row_away(TRIO, (0, 0, 0), 2)), 2)
        self.assertEqual([radius(TRIO, (0, 0, 0)), row_away(TRIO, (0, 0, 0), 1)], [1, None])
        self.assertEqual(radius(TRIO, (1, 1, 1)), 0)

    def test_a_round_that_is_come_to_near_the_rest(self):
        picture = (1, 0, 1)
        self.assertEqual(rests(CAUGHT), (picture,))
        self.assertEqual([radius(CAUGHT, picture), does_come_back(CAUGHT, picture, 1)], [0, False])
        row = row_away(CAUGHT, picture, 1)
        self.assertTrue(is_row_away(CAUGHT, picture, 1, row))
        self.assertIn(row[-1], row[:-1])
        self.assertNotIn(picture, row)
        # The near state is on no round itself.
        late = net_from([[0, 1, 0, 5], [-1, 0, 0, -5], [0, 0, 0, 1], [0, 0, 1, 0]], ["1/2", "-1/2", "1/2", "1/2"])
        self.assertEqual(rests(late), ((1, 0, 1, 1),))
        self.assertFalse(on_a_round(late, (1, 0, 0, 1)))
        self.assertTrue(any(on_a_round(late, met) for met in reach(late, (1, 0, 0, 1))))
        self.assertEqual(radius(late, (1, 0, 1, 1)), 0)
        self.assertTrue(is_row_away(late, (1, 0, 1, 1), 1, row_away(late, (1, 0, 1, 1), 1)))

    def test_rests_that_come_back_from_unlike_many(self):
        # As many cells as more than half, all alike, draw the others with them.
        net = net_from([[0 if i == j else 1 for j in range(8)] for i in range(8)], ["7/2"] * 8)
        self.assertEqual([radius(net, (0,) * 8), radius(net, (1,) * 8)], [3, 3])
        self.assertEqual([does_come_back(net, (0,) * 8, 3), does_come_back(net, (0,) * 8, 4)], [True, False])
        self.assertTrue(is_row_away(net, (0,) * 8, 4, row_away(net, (0,) * 8, 4)))


class Wrong(unittest.TestCase):
    def test_wrong_nets(self):
        for value in wrong_nets():
            assert_refused(self, InvalidNet, "given", value, radius, (value, None))
            for call in (does_come_back, row_away):
                assert_refused(self, InvalidNet, "given", value, call, (value, None, None))

    def test_wrong_pictures(self):
        for net in (SHY, BOLD, PALS, CHASE, WHEEL, CAUGHT):
            for value in wrong_rests(net):
                assert_refused(self, InvalidState, "given", value, radius, (net, value))
                for call in (does_come_back, row_away):
                    assert_refused(self, InvalidState, "given", value, call, (net, value, -1))
                    assert_refused(self, InvalidState, "given", value, call, (net, value, 0))

    def test_wrong_numbers(self):
        for net, picture in ((SHY, (0,)), (PALS, (1, 1)), (CAUGHT, (1, 0, 1))):
            for value in STRANGE + (len(picture) + 1, -1, (0,), "0", [1]):
                for call in (does_come_back, row_away):
                    assert_refused(self, InvalidNumber, "given", value, call, (net, picture, value))

    def test_parameters_have_the_names_of_the_document(self):
        for call, names in ((does_come_back, "net picture many"), (radius, "net picture"),
                            (row_away, "net picture many")):
            assert_signature(self, call, names)


if __name__ == "__main__":
    unittest.main()
