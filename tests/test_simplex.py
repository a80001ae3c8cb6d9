"""The reckoning behind the widest margins: numbers within the bounds, and prices that show that there is no more."""
import random
import unittest
from fractions import Fraction

from heednets.simplex import best_within
from tests.helper import number


def times(row, numbers):
    return sum((part * found for part, found in zip(row, numbers)), Fraction(0))


class Best(unittest.TestCase):
    def check(self, goal, rows, bounds):
        best, numbers, prices = best_within(goal, rows, bounds)
        best, numbers, prices = number(best), list(map(number, numbers)), list(map(number, prices))
        self.assertEqual([len(numbers), len(prices)], [len(goal), len(rows)])
        self.assertTrue(all(found >= 0 for found in numbers + prices))
        self.assertTrue(all(times(row, numbers) <= bound for row, bound in zip(rows, bounds)))
        for at, part in enumerate(goal):
            self.assertGreaterEqual(sum(price * row[at] for price, row in zip(prices, rows)), part)
        self.assertEqual([times(goal, numbers), times(bounds, prices)], [best, best])
        return best

    def test_by_chance(self):
        rng = random.Random(61)
        for _ in range(200):
            width, height = rng.randint(1, 5), rng.randint(1, 5)
            rows = [[rng.randint(-3, 3) for _ in range(width)] for _ in range(height)]
            # A last row of ones lets the goal have an end.
            self.check([rng.randint(-3, 3) for _ in range(width)], rows + [[1] * width],
                       [rng.randint(0, 4) for _ in range(height)] + [rng.randint(0, 9)])

    def test_known_ones(self):
        self.assertEqual(self.check([3, 5], [[1, 0], [0, 2], [3, 2]], [4, 12, 18]), 36)
        self.assertEqual(self.check([1, 1], [[2, 1], [1, 3]], [3, 4]), 2)
        self.assertEqual(self.check([2, 3], [[3, 1], [1, 2]], [4, 3]), 5)
        self.assertEqual(self.check([1], [[3]], [2]), Fraction(2, 3))
        self.assertEqual(self.check([-1], [[3]], [2]), 0)

    def test_where_tables_would_come_again(self):
        # Beale's example, all times a number: by the steepest columns its tables come again for ever.
        self.assertEqual(self.check([75, -15000, 2, -600],
                                    [[25, -6000, -4, 900], [50, -9000, -2, 300], [0, 0, 1, 0]], [0, 0, 1]), 5)


if __name__ == "__main__":
    unittest.main()
