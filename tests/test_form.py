"""How calls and answers stand in their lists, and what is kept: nothing."""

import contextlib
import io
import unittest

from asking import begin, free, line, orders, parted, put, storeyed, take, would
from leanhouse.house import answers

SOME = [free(), begin(), put(2), put(1, 0), put(2, 1, 0), would(0), put(3), orders(), take(1), free(), storeyed(2)]


class Form(unittest.TestCase):
    def test_the_counts_stand_ahead_of_the_answers(self):
        self.assertEqual(answers([6, 0, 1, 2, 0, 1, 1, 1, 0, 3, 0, 5, 4, 9, 6]),
                         [1, -9, 1, 0, 1, 0, 1, 1, 4, 2, 3, 0, 1, 2, 1, 1, 1, -2, 1, 1])

    def test_a_put_has_the_count_of_its_rests_ahead_of_them(self):
        self.assertEqual(answers([0, 1, 2, 0, 1, 2, 0, 1, 1, 2, 1, 0, 3, 1]),
                         [1, 0, 1, 0, 1, 1, 1, 2, 4, 2, 3, 1, 2])

    def test_refused_puts_are_passed_over_whole(self):
        self.assertEqual(answers([0, 1, 0, 2, 4, 4, 1, 2, 3, 6, 5, 0, 1, 2, 10, 5, 5, 5, 5, 5, 5, 5, 5, 5, 5, 5]),
                         [1, 0, 1, -1, 1, -2, 1, -1, 1, 0])

    def test_one_call(self):
        self.assertEqual(answers([0]), [1, 0])
        self.assertEqual(answers([5]), [1, -9])

    def test_sixty_calls(self):
        calls = [begin()] + [put(2), take(0)] + [put(1)] * 9 + [put(1, *range(1, 11))] * 24 + [would(9)] * 24
        self.assertEqual(len(calls), 60)
        told = parted(answers(line(calls)), 60)
        self.assertEqual(told[3:12], [[number] for number in range(1, 10)])
        self.assertEqual(told[12:], [[-2]] * 24 + [[1, 1, 9]] * 24)

    def test_numbers_go_up_to_what_sixty_calls_put(self):
        calls = [begin()]
        for number in range(29):
            calls = calls + [put(2), take(number)]
        told = parted(answers(line(calls + [put(1)])), 60)
        self.assertEqual(told[1::2], [[number] for number in range(29)] + [[29]])
        self.assertEqual(told[2::2], [[1]] * 29)

    def test_what_is_handed_in_is_not_changed(self):
        calls = line(SOME)
        before = list(calls)
        answers(calls)
        self.assertEqual(calls, before)

    def test_nothing_is_kept_from_one_time_to_the_next(self):
        calls = line(SOME)
        first = answers(calls)
        self.assertEqual(answers([5]), [1, -9])
        self.assertEqual(answers(calls), first)
        first.append(7)
        self.assertEqual(answers(calls), first[:-1])

    def test_the_answer_is_a_list_of_plain_whole_numbers(self):
        told = answers(line(SOME))
        self.assertIs(type(told), list)
        for number in told:
            self.assertIs(type(number), int)

    def test_nothing_is_printed(self):
        out = io.StringIO()
        with contextlib.redirect_stdout(out), contextlib.redirect_stderr(out):
            answers(line(SOME))
        self.assertEqual(out.getvalue(), "")


if __name__ == "__main__":
    unittest.main()
