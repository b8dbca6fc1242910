"""How calls and answers stand in their lists, and what is kept: nothing."""

import contextlib
import io
import sys
import time
import unittest

from asking import (begin, cards, free, high, line, look, orders, parted, play, put, storeyed, storeys, take, would,
                    worth)
from leanhouse.house import answers

SOME = [free(), look(), begin(), put(2), put(1, 0), put(2, 1, 0), would(0), put(3), orders(), high(), look(), worth(),
        take(1), free(), storeyed(2), worth(), play(), play(), cards(7), storeys(99), cards(101), look()]


class Form(unittest.TestCase):
    def test_the_counts_stand_ahead_of_the_answers(self):
        self.assertEqual(answers([6, 0, 1, 2, 0, 1, 1, 1, 0, 3, 0, 5, 4, 9, 6]),
                         [1, -9, 1, 0, 1, 0, 1, 1, 4, 2, 3, 0, 1, 2, 1, 1, 1, -2, 1, 1])

    def test_a_put_has_the_count_of_its_rests_ahead_of_them(self):
        self.assertEqual(answers([0, 1, 2, 0, 1, 2, 0, 1, 1, 2, 1, 0, 3, 1]),
                         [1, 0, 1, 0, 1, 1, 1, 2, 4, 2, 3, 1, 2])

    def test_refused_puts_are_passed_over_whole(self):
        self.assertEqual(answers([0, 1, 0, 2, 4, 4, 1, 2, 3, 6, 5, 0, 1, 2, 10, 5, 5, 5, 5, 5, 5, 5, 5, 5, 5, 5]),
                         [1, 0, 1, -1, 1, -2, 1, -1, 1, 0])

    def test_all_thirteen_calls(self):
        self.assertEqual(answers([0, 1, 2, 0, 1, 1, 1, 0, 7, 8, 12, 3, 0, 5, 6, 4, 1, 9, 9, 2, 2, 8, 10, 2, 11, 8]),
                         [1, 0, 1, 0, 1, 1, 3, 2, 1, 2, 2, 2, 0, 8, 2, 0, 2, 0, 1, 1, 1, 0, 4, 2, 3, 0, 1, 2, 1, 1,
                          1, 1, 1, 1, 1, 0, 1, -6, 1, 4, 2, 3, 2, 1, 7, 2, 2, 1])

    def test_numbers_of_cards_and_storeys_are_not_calls(self):
        self.assertEqual(answers([0, 10, 0, 10, 12, 11, 0, 11, 9, 12]), [1, 0, 1, 0, 1, 222, 2, 0, 0, 2, 2, 2, 1, 0])

    def test_one_call(self):
        self.assertEqual(answers([0]), [1, 0])
        for call in ([1, 2, 0], [2, 1], [3, 0], [4, 0], [5], [6], [7], [8], [9], [10, 1], [11, 2], [12]):
            self.assertEqual(answers(call), [1, -9])

    def test_sixty_calls(self):
        calls = [begin()] + [put(2), take(0)] + [put(1)] * 9 + [put(1, *range(1, 11))] * 24 + [would(9)] * 24
        self.assertEqual(len(calls), 60)
        told = parted(answers(line(calls)), 60)
        self.assertEqual(told[3:12], [[number] for number in range(1, 10)])
        self.assertEqual(told[12:], [[-2]] * 24 + [[1, 1, 9]] * 24)

    def test_numbers_go_up_to_what_sixty_calls_put(self):
        calls = [begin()]
        for number in range(29):
            calls = calls + [put(2), take(number)]
        told = parted(answers(line(calls + [put(1)])), 60)
        self.assertEqual(told[1::2], [[number] for number in range(29)] + [[29]])
        self.assertEqual(told[2::2], [[1]] * 29)

    def test_sixty_calls_of_all_sorts(self):
        calls = [begin()] + [put(2), put(1, 0), put(2, 1, 0), high(), worth(), look(), play(), cards(3), storeys(14),
                             free()] * 5 + [storeyed(3), high(), would(4), take(4), orders(), worth(), play(), worth(),
                                            look()]
        self.assertEqual(len(calls), 60)
        told = parted(answers(line(calls)), 60)
        self.assertEqual(told[1:5], [[0], [1], [2], [3, 1, 2, 3]])
        self.assertEqual(told[5:11], [[3, 0], [3, 0, 2, 0, 1, 1, 1, 0, 2, 2, 2, 1, 0], [0], [15], [2, 7], [0]])
        self.assertEqual(told[51:], [[9], [5, 1, 1, 1, 2, 2, 3, 3, 4, 5], [4, 6, 4, 6, 7, 8], [4], [10], [2, 0], [0],
                                     [0], [2, 1, 2, 0, 2, 2, 0]])

    def test_worth_play_and_orders_of_nine_pieces_end_soon(self):
        calls = [begin()] + [put(2)] * 9 + [worth(), orders(), play(), put(1)] * 12 + [worth(), orders()]
        self.assertEqual(len(calls), 60)
        started = time.process_time()
        told = parted(answers(line(calls)), 60)
        self.assertLess(time.process_time() - started, 5)
        for turn in range(12):
            self.assertEqual(told[10 + 4 * turn:14 + 4 * turn], [[1, turn], [362880], [turn], [9 + turn]])
        self.assertEqual(told[58:], [[1, 12], [362880]])

    def test_what_is_handed_in_is_not_changed(self):
        calls = line(SOME)
        before = list(calls)
        answers(calls)
        self.assertEqual(calls, before)

    def test_what_is_handed_in_is_not_changed_for_a_while_either(self):
        class Watched(list):
            """A list that can't be changed."""

            def refuse(self, *args, **kwargs):
                raise AssertionError("changed")

            append = extend = insert = pop = remove = clear = sort = reverse = refuse
            __setitem__ = __delitem__ = __iadd__ = __imul__ = refuse

        calls = line(SOME)
        self.assertEqual(answers(Watched(calls)), answers(calls))

    def test_nothing_is_kept_from_one_time_to_the_next(self):
        calls = line(SOME)
        first = answers(calls)
        self.assertEqual(answers([5]), [1, -9])
        self.assertEqual(answers(calls), first)
        first.append(7)
        self.assertEqual(answers(calls), first[:-1])

    def test_the_answer_is_a_list_of_plain_whole_numbers(self):
        told = answers(line(SOME))
        self.assertIs(type(told), list)
        for number in told:
            self.assertIs(type(number), int)

    def test_nothing_is_printed(self):
        out = io.StringIO()
        with contextlib.redirect_stdout(out), contextlib.redirect_stderr(out):
            answers(line(SOME))
        self.assertEqual(out.getvalue(), "")

    def test_nothing_is_imported_by_it(self):
        before = sorted(sys.modules)
        answers(line(SOME))
        self.assertEqual(sorted(sys.modules), before)


if __name__ == "__main__":
    unittest.main()
