"""Point 3."""

import unittest

from asking import ask, begin, free, look_around, orders, put, storeyed, take, would

# A house of three storeys, put piece by piece as the document tells it.
BY_HAND = [put(2), put(2), put(2), put(1, 0, 1), put(1, 1, 2), put(2, 3), put(2, 4), put(1, 5, 6), put(2, 7)]


class Storeyed(unittest.TestCase):
    def test_of_one(self):
        told = ask(begin(), storeyed(1), *look_around(2), put(1, 0))
        self.assertEqual(told[1:], [[1], [1, 0], [1], [1, 2, 0], [-2], [1]])

    def test_of_two(self):
        told = ask(begin(), storeyed(2), *look_around(5), put(1, 3))
        self.assertEqual(told[1:], [[4], [1, 3], [2],
                                    [3, 5, 0, 2, 3], [3, 5, 1, 2, 3], [2, 3, 2, 3], [1, 2, 3], [-2], [4]])

    def test_of_three(self):
        told = ask(begin(), storeyed(3), *look_around(10))
        self.assertEqual(told[1:4], [[9], [1, 8], [52]])
        self.assertEqual(told[4:], [[5, 8, 0, 3, 5, 7, 8],
                                    [7, 11, 1, 3, 4, 5, 6, 7, 8],
                                    [5, 8, 2, 4, 6, 7, 8],
                                    [4, 6, 3, 5, 7, 8],
                                    [4, 6, 4, 6, 7, 8],
                                    [3, 5, 5, 7, 8],
                                    [3, 5, 6, 7, 8],
                                    [2, 3, 7, 8],
                                    [1, 2, 8],
                                    [-2]])

    def test_of_three_is_what_is_put_by_hand(self):
        self.assertEqual(ask(begin(), storeyed(3), *look_around(10))[2:],
                         ask(begin(), *BY_HAND, *look_around(10))[10:])

    def test_of_three_the_next_number_is_9(self):
        self.assertEqual(ask(begin(), storeyed(3), put(2), take(8), put(2, 7), free())[2:],
                         [[-5], [1], [9], [1, 9]])

    def test_of_0_and_of_more_than_3(self):
        for storeys in (0, 4, 5, 6, 7, 8, 9):
            self.assertEqual(ask(begin(), storeyed(storeys)), [[0], [-1]])

    def test_after_a_refusal_nothing_has_changed(self):
        few = [begin(), put(2), put(1), put(2, 1, 0), take(1)]
        plain = ask(*few, *look_around(4), put(2, 0))[5:]
        for storeys in (0, 4, 9):
            self.assertEqual(ask(*few, storeyed(storeys), *look_around(4), put(2, 0))[6:], plain)

    def test_what_stood_before_is_gone(self):
        told = ask(begin(), put(1), put(1, 0), put(1), put(1), put(1), storeyed(2), free(), would(0), would(4), put(2))
        self.assertEqual(told[6:], [[4], [1, 3], [3, 5, 0, 2, 3], [-2], [4]])

    def test_numbers_go_from_0_on_again(self):
        self.assertEqual(ask(begin(), storeyed(3), take(1), storeyed(1), free(), orders(), put(1, 0), would(0))[3:],
                         [[1], [1, 0], [1], [1], [2, 3, 0, 1]])


if __name__ == "__main__":
    unittest.main()
