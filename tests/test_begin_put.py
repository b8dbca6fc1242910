"""Before a begin, and points 1 and 2."""

import unittest

from asking import (ask, begin, cards, free, high, look, look_around, orders, play, put, storeyed, storeys, take,
                    would, worth)


class BeforeABegin(unittest.TestCase):
    def test_each_call_is_refused(self):
        for call in (put(2), put(1, 0), storeyed(2), would(0), take(0), free(), orders(), high(), worth(), play(),
                     cards(0), cards(3), cards(100), storeys(0), storeys(15), storeys(1000), look()):
            self.assertEqual(ask(call), [[-9]], call)

    def test_wrong_calls_are_refused_for_want_of_a_house_first(self):
        for call in (put(0), put(3, 7, 7), put(1, 5), storeyed(0), storeyed(9), would(99), take(99), cards(101),
                     cards(200), storeys(1001), storeys(2000)):
            self.assertEqual(ask(call), [[-9]], call)

    def test_nothing_has_begun_by_a_refused_call(self):
        for call in (put(2), storeyed(3), would(0), take(0), free(), orders(), high(), worth(), play(), cards(2),
                     storeys(7), look()):
            self.assertEqual(ask(call, orders(), call, put(1), look(), begin(), look(), put(2)),
                             [[-9], [-9], [-9], [-9], [-9], [0], [0], [0]], call)

    def test_a_put_with_rests_is_passed_over_whole(self):
        self.assertEqual(ask(put(2, 0, 0, 5, 6), put(1, 0), begin(), free()), [[-9], [-9], [0], [0]])

    def test_cards_and_storeys_are_passed_over_whole(self):
        self.assertEqual(ask(cards(0), storeys(0), cards(1), storeys(2), begin(), look()),
                         [[-9], [-9], [-9], [-9], [0], [0]])


class Begin(unittest.TestCase):
    def test_answers_0(self):
        self.assertEqual(ask(begin()), [[0]])
        self.assertEqual(ask(begin(), begin()), [[0], [0]])

    def test_a_house_of_no_piece_is_a_house(self):
        self.assertEqual(ask(begin(), free(), orders(), would(0), take(0)), [[0], [0], [1], [-2], [-2]])

    def test_in_the_middle_it_leaves_no_piece(self):
        told = ask(begin(), put(2), put(2), put(1, 0, 1), begin(), free(), orders(), would(0), would(2))
        self.assertEqual(told[4:], [[0], [0], [1], [-2], [-2]])

    def test_in_the_middle_numbers_go_from_0_on_again(self):
        told = ask(begin(), put(2), put(2), begin(), put(1), put(2, 0), free())
        self.assertEqual(told[3:], [[0], [0], [1], [1, 1]])

    def test_behind_a_full_house_there_is_room(self):
        self.assertEqual(ask(begin(), storeyed(3), begin(), put(2), free())[2:], [[0], [0], [1, 0]])


class Put(unittest.TestCase):
    def test_answers_the_numbers_one_after_another(self):
        self.assertEqual(ask(begin(), put(2), put(1), put(2, 1)), [[0], [0], [1], [2]])

    def test_a_number_is_not_used_again(self):
        self.assertEqual(ask(begin(), put(2), put(2), take(1), put(2), take(0), take(2), put(1), free()),
                         [[0], [0], [1], [1], [2], [1], [1], [3], [1, 3]])

    def test_rests_on_none_on_one_and_on_several(self):
        told = ask(begin(), put(2), put(2), put(2), put(1, 2, 0), put(2, 3), *look_around(5))
        self.assertEqual(told[1:6], [[0], [1], [2], [3], [4]])
        self.assertEqual(told[6:], [[2, 1, 4], [10],
                                    [3, 5, 0, 3, 4], [1, 2, 1], [3, 5, 2, 3, 4], [2, 3, 3, 4], [1, 2, 4]])

    def test_rests_on_eight(self):
        told = ask(begin(), *[put(2)] * 8, put(1, 7, 3, 5, 1, 0, 2, 4, 6), free(), would(6), orders())
        self.assertEqual(told[9:], [[8], [1, 8], [2, 3, 6, 8], [40320]])

    def test_cards_count_as_told(self):
        self.assertEqual(ask(begin(), put(1), put(2), would(0), would(1))[3:], [[1, 1, 0], [1, 2, 1]])

    def test_cards_that_are_not_1_or_2(self):
        for cards in (0, 3, 4, 5, 6, 7, 8, 9):
            self.assertEqual(ask(begin(), put(cards)), [[0], [-1]])
            self.assertEqual(ask(begin(), put(2), put(cards, 0))[2], [-1])

    def test_a_piece_told_twice(self):
        for rests in ((0, 0), (0, 1, 0), (1, 0, 0), (1, 1, 0), (0,) * 10):
            self.assertEqual(ask(begin(), put(2), put(2), put(1, *rests))[3], [-1], rests)

    def test_a_piece_that_was_never_there(self):
        for rests in ((0,), (99,)):
            self.assertEqual(ask(begin(), put(1, *rests)), [[0], [-2]])
        for rests in ((1,), (2,), (0, 1), (1, 0), (0, 99)):
            self.assertEqual(ask(begin(), put(2), put(1, *rests))[2], [-2], rests)

    def test_a_piece_that_has_fallen(self):
        told = ask(begin(), put(2), put(2), put(1, 0, 1), take(0), put(2, 2), put(2, 1, 0), put(2, 1))
        self.assertEqual(told[4:], [[2], [-2], [-2], [3]])

    def test_nine_are_there(self):
        full = [begin()] + [put(2)] * 9
        self.assertEqual(ask(*full)[1:], [[number] for number in range(9)])
        self.assertEqual(ask(*full, put(2), put(1), put(1, 0, 8))[10:], [[-5], [-5], [-5]])
        self.assertEqual(ask(begin(), storeyed(3), put(2))[2], [-5])

    def test_nine_that_stand_count_not_nine_that_came(self):
        told = ask(begin(), *[put(2)] * 9, take(4), put(1, 8), put(1), take(8), put(2), put(2), put(2))
        self.assertEqual(told[10:], [[1], [9], [-5], [2], [10], [11], [-5]])

    def test_the_first_refusal_counts(self):
        few = [begin(), put(2)]
        for call in (put(0, 5), put(3, 0, 5), put(1, 5, 5), put(2, 0, 0, 5), put(2, 5, 0, 0)):
            self.assertEqual(ask(*few, call)[2], [-1], call)
        full = [begin()] + [put(2)] * 9
        for call in (put(0), put(9, 0), put(1, 3, 3), put(0, 50), put(1, 50, 50), put(2, 0, 1, 2, 3, 4, 5, 6, 7, 8, 0)):
            self.assertEqual(ask(*full, call)[10], [-1], call)
        for call in (put(1, 9), put(2, 0, 99), put(2, 0, 1, 2, 3, 4, 5, 6, 7, 8, 9)):
            self.assertEqual(ask(*full, call)[10], [-2], call)

    def test_after_a_refusal_nothing_has_changed(self):
        few = [begin(), put(2), put(2), put(1, 0, 1)]
        plain = ask(*few, *look_around(4), put(2, 2))[4:]
        for call in (put(0), put(3, 0), put(1, 0, 0), put(1, 0, 3), put(2, 99)):
            self.assertEqual(ask(*few, call, *look_around(4), put(2, 2))[5:], plain, call)
        full = [begin()] + [put(2)] * 9
        plain = ask(*full, *look_around(10), take(8), put(1, 0))[10:]
        self.assertEqual(plain[-1], [9])
        for call in (put(2), put(1, 0), put(0), put(1, 9)):
            self.assertEqual(ask(*full, call, *look_around(10), take(8), put(1, 0))[11:], plain, call)


if __name__ == "__main__":
    unittest.main()
