"""Points 9 and 10."""

import itertools
import unittest

from asking import ask, begin, free, high, look, look_around, play, put, storeyed, take, worth

# 0 alone; 1, 2 and 3 in a row. Only 2 leaves two alone.
ALONE_AND_ROW = [begin(), put(2), put(2), put(1, 1), put(2, 2)]
# 0, 1 and 2 on the table, 3 on 1 and 2. 1 and 2 leave two alone.
TWO_WAYS = [begin(), put(2), put(2), put(2), put(1, 1, 2)]
# Rows of one, two and three, their pieces mixed: worth 0.
THREE_ROWS = [begin(), put(2), put(2), put(2), put(1, 1), put(1, 2), put(2, 4)]


def row(pieces):
    return [begin(), put(2)] + [put(1, below) for below in range(pieces - 1)]


class Worth(unittest.TestCase):
    def test_of_no_piece(self):
        self.assertEqual(ask(begin(), worth())[1], [0])
        self.assertEqual(ask(begin(), storeyed(1), take(0), worth())[3], [0])

    def test_of_pieces_on_the_table(self):
        for pieces in range(1, 10):
            wanted = [1, 0] if pieces % 2 == 1 else [0]
            self.assertEqual(ask(begin(), *[put(2)] * pieces, worth())[-1], wanted, pieces)

    def test_of_a_row(self):
        for pieces in range(1, 10):
            self.assertEqual(ask(*row(pieces), worth())[-1], [pieces, 0])

    def test_of_storeys(self):
        self.assertEqual(ask(begin(), storeyed(1), worth())[2], [1, 0])
        self.assertEqual(ask(begin(), storeyed(2), worth())[2], [3, 2])
        self.assertEqual(ask(begin(), storeyed(3), worth())[2], [6, 1])

    def test_one_falls_if_any_that_it_rests_on_does(self):
        self.assertEqual(ask(begin(), put(2), put(2), put(1, 0, 1), worth())[4], [2, 2])
        self.assertEqual(ask(begin(), put(2), put(2), put(2), put(1, 2, 0, 1), worth())[5], [2, 0])

    def test_of_all_on_one_and_of_one_on_all(self):
        self.assertEqual(ask(begin(), put(2), *[put(1, 0)] * 8, worth())[10], [1, 0])
        self.assertEqual(ask(begin(), put(2), *[put(1, 0)] * 7, worth())[9], [2, 0])
        self.assertEqual(ask(begin(), *[put(2)] * 8, put(1, *range(8)), worth())[10], [2, 8])

    def test_worth_0_but_not_empty(self):
        self.assertEqual(ask(begin(), put(2), put(1, 0), put(2), put(1, 2), worth())[5], [0])
        self.assertEqual(ask(*THREE_ROWS, worth())[7], [0])

    def test_a_piece_that_is_not_the_first(self):
        self.assertEqual(ask(*ALONE_AND_ROW, worth())[5], [2, 2])

    def test_of_several_pieces_the_one_with_the_lowest_number(self):
        self.assertEqual(ask(*TWO_WAYS, worth())[5], [3, 1])
        self.assertEqual(ask(begin(), put(2), put(2), put(1, 1), put(1, 0), put(1, 0), worth())[6], [3, 2])

    def test_cards_do_not_count(self):
        for first, second, third in itertools.product((1, 2), repeat=3):
            self.assertEqual(ask(begin(), put(first), put(second), put(third, 0), worth())[4], [3, 2])

    def test_behind_a_take_where_numbers_have_gaps(self):
        self.assertEqual(ask(begin(), *[put(2)] * 4, take(0), worth(), take(2), worth(), take(1), worth())[6:],
                         [[1, 1], [1], [0], [1], [1, 3]])
        self.assertEqual(ask(begin(), storeyed(3), take(3), worth(), put(1), worth())[2:], [[4], [2, 1], [9], [3, 4]])
        self.assertEqual(ask(begin(), put(1), put(1), *ALONE_AND_ROW[1:3], put(1, 3), put(2, 4), take(0), take(1),
                             worth())[-1], [2, 4])

    def test_numbers_above_8(self):
        gone = []
        for number in range(20):
            gone = gone + [put(2), take(number)]
        told = ask(begin(), *gone, put(1), put(2), put(1, 21), put(2, 22), worth(), play(), look())
        self.assertEqual(told[-3:], [[2, 22], [22], [2, 20, 1, 0, 21, 2, 0]])

    def test_nothing_changes_by_it(self):
        for some in (ALONE_AND_ROW, TWO_WAYS, THREE_ROWS, [begin()], [begin(), storeyed(3)]):
            plain = ask(*some, look(), *look_around(10), put(1), look(), worth())[len(some):]
            self.assertEqual(ask(*some, worth(), look(), *look_around(10), put(1), look(), worth())[len(some) + 1:],
                             plain)
        self.assertEqual(ask(*TWO_WAYS, worth(), worth(), worth())[5:], [[3, 1]] * 3)


class Play(unittest.TestCase):
    def test_it_takes_what_worth_tells(self):
        self.assertEqual(ask(begin(), put(1), play(), look())[2:], [[0], [0]])
        self.assertEqual(ask(*TWO_WAYS, play(), look())[5:], [[1], [2, 0, 2, 0, 2, 2, 0]])
        self.assertEqual(ask(begin(), *[put(2)] * 9, play(), free())[10:], [[0], [8, 1, 2, 3, 4, 5, 6, 7, 8]])

    def test_all_that_falls_is_gone(self):
        self.assertEqual(ask(*row(9), play(), look(), high())[10:], [[0], [0], [0]])
        self.assertEqual(ask(*ALONE_AND_ROW, play(), look())[5:], [[2], [2, 0, 2, 0, 1, 2, 0]])
        self.assertEqual(ask(begin(), storeyed(2), play(), look())[2:], [[2], [2, 0, 2, 0, 1, 2, 0]])
        self.assertEqual(ask(begin(), storeyed(3), play(), look(), worth())[2:], [[1], [2, 0, 2, 0, 2, 2, 0], [0]])

    def test_it_does_what_a_take_does(self):
        for some in (ALONE_AND_ROW, TWO_WAYS, row(5), [begin(), storeyed(2)], [begin(), storeyed(3)]):
            piece = ask(*some, worth())[-1][1]
            self.assertEqual(ask(*some, play())[-1], [piece])
            behind = [look(), *look_around(10), put(2), worth()]
            self.assertEqual(ask(*some, play(), *behind)[len(some) + 1:],
                             ask(*some, take(piece), *behind)[len(some) + 1:])

    def test_a_number_is_not_used_again(self):
        self.assertEqual(ask(begin(), put(2), play(), put(2), play(), put(1))[1:], [[0], [0], [1], [1], [2]])

    def test_none_to_take(self):
        self.assertEqual(ask(begin(), play())[1], [-6])
        self.assertEqual(ask(begin(), put(2), put(2), play())[3], [-6])
        self.assertEqual(ask(*THREE_ROWS, play())[7], [-6])

    def test_after_a_refusal_nothing_has_changed(self):
        for some in ([begin()], [begin(), put(2), put(2)], THREE_ROWS):
            behind = [look(), *look_around(7), worth(), put(1), look(), play(), look()]
            self.assertEqual(ask(*some, play(), *behind)[len(some) + 1:], ask(*some, *behind)[len(some):])

    def test_again_and_again(self):
        self.assertEqual(ask(*row(3), play(), play(), play())[4:], [[0], [-6], [-6]])
        self.assertEqual(ask(begin(), put(2), put(2), put(2), play(), play(), take(2), play(), play())[4:],
                         [[0], [-6], [1], [1], [-6]])

    def test_who_plays_wins_whatever_the_other_takes(self):
        for some in ([begin(), storeyed(2)], [begin(), storeyed(3)], ALONE_AND_ROW, TWO_WAYS, row(4)):
            self.follow(some)

    def follow(self, calls):
        """Play, then every take that the other can do, till nothing stands: then the other finds nothing."""
        calls = calls + [play()]
        told = ask(*calls, look())
        self.assertGreaterEqual(told[-2][0], 0, calls)
        for piece in range(9):
            if ask(*calls, take(piece))[-1] != [-2]:
                self.follow(calls + [take(piece)])


if __name__ == "__main__":
    unittest.main()
