"""Points 4 to 6: would, take and free."""

import unittest

from asking import ask, begin, free, look_around, orders, put, storeyed, take, would

# 0, 1 and 5 on the table, 2 on 0 and 1, 3 on 2, 4 on 1, 6 on 5 and 3.
MIXED = [begin(), put(2), put(2), put(1, 1, 0), put(2, 2), put(1, 1), put(2), put(1, 5, 3)]


class Would(unittest.TestCase):
    def test_how_many_pieces_how_many_cards_which(self):
        told = ask(*MIXED, *[would(piece) for piece in range(7)])[8:]
        self.assertEqual(told, [[4, 6, 0, 2, 3, 6], [5, 7, 1, 2, 3, 4, 6], [3, 4, 2, 3, 6], [2, 3, 3, 6],
                                [1, 1, 4], [2, 3, 5, 6], [1, 1, 6]])

    def test_over_several_steps(self):
        row = [begin(), put(2)] + [put(1, below) for below in range(8)]
        told = ask(*row, would(0), would(5))[10:]
        self.assertEqual(told, [[9, 10, 0, 1, 2, 3, 4, 5, 6, 7, 8], [4, 4, 5, 6, 7, 8]])

    def test_one_of_several_is_enough(self):
        several = [begin(), put(1), put(1), put(1), put(2, 2, 0, 1)]
        for piece in range(3):
            self.assertEqual(ask(*several, would(piece))[5], [2, 3, piece, 3])

    def test_what_stands_beside_stays(self):
        self.assertEqual(ask(begin(), put(2), put(1), put(2, 0), would(1))[4], [1, 1, 1])

    def test_a_piece_reached_in_two_ways_counts_once(self):
        self.assertEqual(ask(begin(), put(2), put(1, 0), put(1, 0), put(2, 1, 2), would(0))[5], [4, 6, 0, 1, 2, 3])

    def test_nothing_changes_by_it(self):
        plain = ask(*MIXED, *look_around(8), put(1))[8:]
        for piece in (0, 1, 5, 7, 99):
            self.assertEqual(ask(*MIXED, would(piece), *look_around(8), put(1))[9:], plain)

    def test_no_such_piece(self):
        self.assertEqual(ask(begin(), would(0))[1], [-2])
        self.assertEqual(ask(*MIXED, would(7), would(99), take(2), would(2), would(3), would(6))[8:],
                         [[-2], [-2], [3], [-2], [-2], [-2]])

    def test_behind_a_take(self):
        self.assertEqual(ask(*MIXED, take(4), would(1), take(3), would(1), would(5))[8:],
                         [[1], [4, 6, 1, 2, 3, 6], [2], [2, 3, 1, 2], [1, 2, 5]])

    def test_numbers_above_8(self):
        told = ask(begin(), *[put(2), take(0)], *[put(1)] * 9, take(5), put(2, 9, 1), would(9), would(1), would(10))
        self.assertEqual(told[12:], [[1], [10], [2, 3, 9, 10], [2, 3, 1, 10], [1, 2, 10]])


class Take(unittest.TestCase):
    def test_how_many_fell(self):
        for piece, fell in enumerate((4, 5, 3, 2, 1, 2, 1)):
            self.assertEqual(ask(*MIXED, take(piece))[8], [fell])

    def test_what_fell_is_gone_and_the_rest_stands(self):
        told = ask(*MIXED, take(0), *look_around(7))[8:]
        self.assertEqual(told, [[4], [2, 4, 5], [3],
                                [-2], [2, 3, 1, 4], [-2], [-2], [1, 1, 4], [1, 2, 5], [-2]])

    def test_the_last_one(self):
        self.assertEqual(ask(begin(), storeyed(1), take(0), free(), orders(), take(0), put(2), free())[2:],
                         [[1], [0], [1], [-2], [1], [1, 1]])

    def test_no_such_piece(self):
        self.assertEqual(ask(begin(), take(0))[1], [-2])
        self.assertEqual(ask(*MIXED, take(7), take(99), take(6), take(6), take(1), take(3))[8:],
                         [[-2], [-2], [1], [-2], [4], [-2]])

    def test_after_a_refusal_nothing_has_changed(self):
        plain = ask(*MIXED, take(3), *look_around(8), put(1))[8:]
        for piece in (7, 50, 99):
            self.assertEqual(ask(*MIXED, take(piece), take(3), *look_around(8), put(1))[9:], plain)


class Free(unittest.TestCase):
    def test_of_no_piece(self):
        self.assertEqual(ask(begin(), free())[1], [0])

    def test_of_some(self):
        self.assertEqual(ask(*MIXED, free())[8], [2, 4, 6])
        self.assertEqual(ask(begin(), put(2), put(1), put(2), free())[4], [3, 0, 1, 2])
        self.assertEqual(ask(begin(), *[put(2)] * 9, free())[10], [9, 0, 1, 2, 3, 4, 5, 6, 7, 8])

    def test_of_storeys(self):
        self.assertEqual(ask(begin(), storeyed(3), free())[2], [1, 8])

    def test_behind_a_take(self):
        self.assertEqual(ask(*MIXED, take(6), free(), take(5), free(), take(4), free(), take(2), free())[8:],
                         [[1], [3, 3, 4, 5], [1], [2, 3, 4], [1], [1, 3],
                          [2], [2, 0, 1]])

    def test_all_that_bears_one_is_left_out_though_told_later(self):
        self.assertEqual(ask(begin(), put(2), put(2), put(2), put(1, 2, 0), free())[5], [2, 1, 3])


if __name__ == "__main__":
    unittest.main()
