"""Points 11 and 12."""

import unittest

from asking import ask, begin, cards, look, put, storeyed, storeys


def laid(how_many):
    """The cards of such a house, storey by storey as the document tells it."""
    together = 0
    for pairs in range(how_many, 0, -1):
        together += 2 * pairs + (pairs - 1)
    return together


def ask_each(call, numbers):
    """One answer a number, in lines of at most sixty calls."""
    told = []
    numbers = list(numbers)
    for at in range(0, len(numbers), 59):
        told.extend(ask(begin(), *[call(number) for number in numbers[at:at + 59]])[1:])
    return told


class Cards(unittest.TestCase):
    def test_of_some(self):
        self.assertEqual(ask(begin(), cards(0), cards(1), cards(2), cards(3), cards(4), cards(100))[1:],
                         [[0], [2], [7], [15], [26], [15050]])

    def test_of_each_up_to_100(self):
        self.assertEqual(ask_each(cards, range(101)), [[laid(number)] for number in range(101)])

    def test_of_more_than_100(self):
        self.assertEqual(ask(begin(), cards(101), cards(200))[1:], [[-1], [-1]])
        self.assertEqual(ask_each(cards, range(101, 201)), [[-1]] * 100)

    def test_of_a_house_that_is_looked_at(self):
        for number in (1, 2, 3):
            told = ask(begin(), storeyed(number), look(), cards(number))
            pieces = told[2][1:]
            together = 0
            while pieces:
                together += pieces[1]
                pieces = pieces[3 + pieces[2]:]
            self.assertEqual(told[3], [together])


class Storeys(unittest.TestCase):
    def test_of_some(self):
        told = ask(begin(), *[storeys(number) for number in (0, 1, 2, 3, 6, 7, 8, 14, 15, 25, 26, 1000)])
        self.assertEqual(told[1:], [[0, 0], [0, 1], [1, 0], [1, 1], [1, 4], [2, 0], [2, 1], [2, 7], [3, 0], [3, 10],
                                    [4, 0], [25, 50]])

    def test_of_each_up_to_1000(self):
        wanted = []
        for number in range(1001):
            most = max(made for made in range(40) if laid(made) <= number)
            wanted.append([most, number - laid(most)])
        self.assertEqual(ask_each(storeys, range(1001)), wanted)

    def test_of_more_than_1000(self):
        self.assertEqual(ask(begin(), storeys(1001), storeys(1027), storeys(2000))[1:], [[-1]] * 3)


class TheHouseStays(unittest.TestCase):
    def test_nothing_changes_by_them(self):
        some = [begin(), put(2), put(1, 0), put(2)]
        plain = ask(*some, look(), put(1, 2), look())[4:]
        for call in (cards(0), cards(3), cards(100), cards(101), storeys(0), storeys(15), storeys(1000), storeys(1001)):
            self.assertEqual(ask(*some, call, look(), put(1, 2), look())[5:], plain, call)

    def test_they_need_no_piece(self):
        self.assertEqual(ask(begin(), cards(2), look(), storeys(7), look()), [[0], [7], [0], [2, 0], [0]])


if __name__ == "__main__":
    unittest.main()
