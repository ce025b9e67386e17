"""Lists that are kept ascending."""

import unittest

from boxedroots.ascending import put_in
from helping import Dice


class PutInTest(unittest.TestCase):
    def test_all_orders_of_a_few(self):
        for things in ([], [1], [1, 2], [2, 1], [1, 1], [1, 2, 3], [3, 2, 1], [2, 3, 1], [2, 1, 2], [1, 2, 2, 1]):
            row = []
            for thing in things:
                self.assertIsNone(put_in(row, thing))
            self.assertEqual(row, sorted(things))

    def test_many_with_some_taken_out(self):
        dice = Dice(140)
        row, wanted = [], []
        for _ in range(2000):
            thing = dice.choose((dice.throw(-9, 9), dice.throw(-10 ** 6, 10 ** 6), 10 ** 60 + dice.throw(0, 5)))
            put_in(row, thing)
            wanted = sorted(wanted + [thing])
            if dice.throw(0, 2) == 0:
                self.assertEqual(row.pop(), wanted.pop())
            self.assertEqual(row, wanted)

    def test_tuples(self):
        row = [(0, -1, 0)]
        for thing in ((5, 1, 2), (5, 0, 3), (1, 2, 0), (5, 0, 1)):
            put_in(row, thing)
        self.assertEqual(row, [(0, -1, 0), (1, 2, 0), (5, 0, 1), (5, 0, 3), (5, 1, 2)])


if __name__ == "__main__":
    unittest.main()
