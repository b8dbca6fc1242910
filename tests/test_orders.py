"""Point 7."""

import unittest

from asking import ask, begin, orders, put, storeyed, take


class Orders(unittest.TestCase):
    def test_of_none(self):
        self.assertEqual(ask(begin(), orders())[1], [1])
        self.assertEqual(ask(begin(), put(2), put(1, 0), take(0), orders())[4], [1])

    def test_of_one(self):
        self.assertEqual(ask(begin(), put(1), orders())[2], [1])

    def test_of_a_row(self):
        row = [begin(), put(2)] + [put(1, below) for below in range(8)]
        self.assertEqual(ask(*row, orders())[10], [1])

    def test_of_pieces_that_all_stand_on_the_table(self):
        ways = 1
        for pieces in range(1, 10):
            ways = ways * pieces
            self.assertEqual(ask(begin(), *[put(2)] * pieces, orders())[-1], [ways])
        self.assertEqual(ways, 362880)

    def test_of_all_on_one_and_of_one_on_all(self):
        self.assertEqual(ask(begin(), put(2), *[put(1, 0)] * 8, orders())[10], [40320])
        self.assertEqual(ask(begin(), *[put(2)] * 8, put(1, *range(8)), orders())[10], [40320])

    def test_of_two_rows(self):
        two = [begin(), put(2), put(2), put(1, 0), put(1, 1), put(2, 2), put(2, 3)]
        self.assertEqual(ask(*two, orders())[7], [20])

    def test_of_storeys(self):
        for storeys, ways in ((1, 1), (2, 2), (3, 52)):
            self.assertEqual(ask(begin(), storeyed(storeys), orders())[2], [ways])

    def test_behind_a_take(self):
        told = ask(begin(), storeyed(3), take(8), orders(), take(3), orders(), put(1), orders())
        self.assertEqual(told[2:], [[1], [52], [3], [10], [9], [60]])

    def test_nothing_changes_by_it(self):
        self.assertEqual(ask(begin(), storeyed(2), orders(), orders(), put(1), orders(), orders())[2:],
                         [[2], [2], [4], [10], [10]])


if __name__ == "__main__":
    unittest.main()
