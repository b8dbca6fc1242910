"""Point 13."""

import unittest

from asking import ask, begin, high, look, look_around, play, put, storeyed, take, worth

THREE_STOREYS = [9, 0, 2, 0, 1, 2, 0, 2, 2, 0, 3, 1, 2, 0, 1, 4, 1, 2, 1, 2,
                 5, 2, 1, 3, 6, 2, 1, 4, 7, 1, 2, 5, 6, 8, 2, 1, 7]


class Look(unittest.TestCase):
    def test_of_no_piece(self):
        self.assertEqual(ask(begin(), look())[1], [0])
        self.assertEqual(ask(begin(), storeyed(1), take(0), look())[3], [0])

    def test_of_pieces_on_the_table(self):
        self.assertEqual(ask(begin(), put(2), put(1), look())[3], [2, 0, 2, 0, 1, 1, 0])

    def test_of_storeys(self):
        self.assertEqual(ask(begin(), storeyed(1), look())[2], [1, 0, 2, 0])
        self.assertEqual(ask(begin(), storeyed(2), look())[2], [4, 0, 2, 0, 1, 2, 0, 2, 1, 2, 0, 1, 3, 2, 1, 2])
        self.assertEqual(ask(begin(), storeyed(3), look())[2], THREE_STOREYS)

    def test_rests_stay_as_they_were_told(self):
        table = [begin(), put(2), put(2), put(2)]
        for rests in ([2, 0, 1], [1, 0], [0, 1], [2, 1, 0], [1, 2, 0], [0, 2, 1]):
            self.assertEqual(ask(*table, put(1, *rests), look())[5],
                             [4, 0, 2, 0, 1, 2, 0, 2, 2, 0, 3, 1, len(rests)] + rests)

    def test_rests_stay_as_they_were_told_through_other_calls(self):
        table = [begin(), put(2), put(2), put(2), put(1, 2, 0, 1)]
        told = ask(*table, *look_around(5), high(), worth(), put(1, 3), take(4), look())
        self.assertEqual(told[-1], [4, 0, 2, 0, 1, 2, 0, 2, 2, 0, 3, 1, 3, 2, 0, 1])

    def test_rests_on_eight(self):
        rests = [7, 3, 5, 1, 0, 2, 4, 6]
        told = ask(begin(), *[put(2)] * 8, put(1, *rests), look())[10]
        self.assertEqual(told[25:], [8, 1, 8] + rests)

    def test_behind_a_take(self):
        self.assertEqual(ask(begin(), storeyed(3), take(3), look(), put(1, 6, 0), look())[3:],
                         [[5, 0, 2, 0, 1, 2, 0, 2, 2, 0, 4, 1, 2, 1, 2, 6, 2, 1, 4],
                          [9],
                          [6, 0, 2, 0, 1, 2, 0, 2, 2, 0, 4, 1, 2, 1, 2, 6, 2, 1, 4, 9, 1, 2, 6, 0]])

    def test_behind_a_refusal(self):
        for call in (put(2), put(0), put(1, 0, 0), put(1, 9), storeyed(0), storeyed(4), take(9), take(99)):
            self.assertEqual(ask(begin(), storeyed(3), call, look())[3], THREE_STOREYS, call)
        self.assertEqual(ask(begin(), put(2), put(1), play(), look())[3:], [[-6], [2, 0, 2, 0, 1, 1, 0]])

    def test_behind_another_house(self):
        self.assertEqual(ask(begin(), storeyed(3), begin(), look(), put(1), look(), storeyed(1), look())[2:],
                         [[0], [0], [0], [1, 0, 1, 0], [1], [1, 0, 2, 0]])

    def test_nothing_changes_by_it(self):
        some = [begin(), put(2), put(1, 0), put(2), put(1, 2, 0)]
        self.assertEqual(ask(*some, look(), *look_around(5), look(), put(1))[6:],
                         ask(*some, *look_around(5), look(), put(1))[5:])


if __name__ == "__main__":
    unittest.main()
