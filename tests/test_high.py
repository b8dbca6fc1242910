"""Point 8."""

import unittest

from asking import ask, begin, high, look_around, put, storeyed, take


class High(unittest.TestCase):
    def test_of_no_piece(self):
        self.assertEqual(ask(begin(), high())[1], [0])
        self.assertEqual(ask(begin(), storeyed(2), take(0), take(1), high())[4], [0])

    def test_of_pieces_on_the_table(self):
        self.assertEqual(ask(begin(), put(1), high())[2], [1, 1])
        self.assertEqual(ask(begin(), put(2), put(1), put(2), high())[4], [1, 1, 1, 1])

    def test_of_a_row(self):
        row = [begin(), put(2)] + [put(1, below) for below in range(8)]
        self.assertEqual(ask(*row, high())[10], [9, 1, 2, 3, 4, 5, 6, 7, 8, 9])

    def test_on_several_of_unlike_heights_the_highest_counts(self):
        row = [begin(), put(2), put(1, 0), put(1, 1), put(2)]
        for rests in ((2, 3), (3, 2), (0, 2, 1), (2, 0), (3, 2, 1, 0)):
            self.assertEqual(ask(*row, put(2, *rests), high())[6], [4, 1, 2, 3, 1, 4], rests)
        self.assertEqual(ask(*row, put(2, 3, 1), put(1, 4, 3), high())[7], [4, 1, 2, 3, 1, 3, 4])

    def test_the_highest_piece_need_not_be_the_last(self):
        self.assertEqual(ask(begin(), put(2), put(1, 0), put(1), high())[4], [2, 1, 2, 1])

    def test_cards_do_not_count(self):
        self.assertEqual(ask(begin(), put(2), put(2, 0), put(1), put(1, 2), high())[5], [2, 1, 2, 1, 2])

    def test_of_storeys(self):
        self.assertEqual(ask(begin(), storeyed(1), high())[2], [1, 1])
        self.assertEqual(ask(begin(), storeyed(2), high())[2], [3, 1, 1, 2, 3])
        self.assertEqual(ask(begin(), storeyed(3), high())[2], [5, 1, 1, 1, 2, 2, 3, 3, 4, 5])

    def test_behind_a_take(self):
        told = ask(begin(), storeyed(3), take(8), high(), take(5), high(), put(2, 6, 0), high(), take(2), high())
        self.assertEqual(told[3:], [[4, 1, 1, 1, 2, 2, 3, 3, 4],
                                    [2], [3, 1, 1, 1, 2, 2, 3],
                                    [9], [4, 1, 1, 1, 2, 2, 3, 4],
                                    [4], [2, 1, 1, 2]])

    def test_nothing_changes_by_it(self):
        some = [begin(), put(2), put(1, 0), put(2), put(1, 2, 1)]
        self.assertEqual(ask(*some, high(), *look_around(5), high(), put(1))[6:],
                         ask(*some, *look_around(5), high(), put(1))[5:])


if __name__ == "__main__":
    unittest.main()
