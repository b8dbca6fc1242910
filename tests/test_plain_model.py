"""The program beside a slow model that follows the document's words one by one, on many made-up lines."""

import itertools
import random
import unittest

from asking import begin, free, line, orders, parted, put, storeyed, take, would
from leanhouse.house import answers


class Model:
    def __init__(self):
        self.begun = False
        self.pieces = {}
        self.came = 0

    def add(self, cards, rests):
        self.pieces[self.came] = (cards, set(rests))
        self.came += 1
        return self.came - 1

    def fall(self, piece):
        down = {piece}
        while True:
            more = {each for each, (_, rests) in self.pieces.items() if rests & down} - down
            if not more:
                return sorted(down)
            down |= more

    def build(self, storeys):
        self.pieces = {}
        self.came = 0
        across = [None] * storeys
        for pairs in range(storeys, 0, -1):
            stood = [self.add(2, [] if across[k] is None else [across[k]]) for k in range(pairs)]
            across = [self.add(1, [stood[k], stood[k + 1]]) for k in range(pairs - 1)]
        return len(self.pieces)

    def ways(self, built=frozenset()):
        left = set(self.pieces) - built
        if not left:
            return 1
        return sum(self.ways(built | {each}) for each in left if self.pieces[each][1] <= built)

    def put(self, cards, rests):
        if cards not in (1, 2) or len(set(rests)) != len(rests):
            return [-1]
        if not set(rests) <= set(self.pieces):
            return [-2]
        if len(self.pieces) == 9:
            return [-5]
        return [self.add(cards, rests)]

    def answer(self, call):
        name = call[0]
        if name == 0:
            self.begun = True
            self.pieces = {}
            self.came = 0
            return [0]
        if not self.begun:
            return [-9]
        if name == 1:
            return self.put(call[1], call[3:])
        if name == 2:
            return [self.build(call[1])] if call[1] in (1, 2, 3) else [-1]
        if name in (3, 4):
            return self.named(name, call[1])
        if name == 5:
            borne = set().union(*[rests for _, rests in self.pieces.values()])
            bare = sorted(set(self.pieces) - borne)
            return [len(bare)] + bare
        return [self.ways()]

    def named(self, name, piece):
        if piece not in self.pieces:
            return [-2]
        down = self.fall(piece)
        cards = sum(self.pieces[each][0] for each in down)
        if name == 3:
            return [len(down), cards] + down
        for each in down:
            del self.pieces[each]
        return [len(down)]


def some_call(draw, near):
    """A call that is mostly right: pieces are mostly such as may be there."""
    def piece():
        return draw.randrange(near) if draw.random() < 0.95 else draw.randrange(100)

    name = draw.choices(range(7), (1, 30, 2, 8, 6, 6, 3))[0]
    if name == 1:
        rests = [piece() for _ in range(draw.choices((0, 1, 2, 3, 10), (5, 5, 4, 2, 1))[0])]
        return put(draw.choice((1, 1, 1, 2, 2, 2, 2, draw.randrange(10))), *rests)
    if name == 2:
        return storeyed(draw.choice((1, 2, 3, draw.randrange(10))))
    if name in (3, 4):
        return [name, piece()]
    return [name]


class BesideTheModel(unittest.TestCase):
    def check(self, calls):
        model = Model()
        wanted = [model.answer(call) for call in calls]
        self.assertEqual(parted(answers(line(calls)), len(calls)), wanted, calls)

    def test_made_up_lines(self):
        draw = random.Random(90)
        for _ in range(300):
            calls = [] if draw.random() < 0.2 else [begin()]
            near = draw.choice((4, 9, 15))
            length = draw.randint(1, 60)
            while len(calls) < length:
                calls.append(some_call(draw, near))
            self.check(calls)

    def test_every_pair_of_takes_from_every_house_of_storeys(self):
        for storeys in (1, 2, 3):
            for first, second in itertools.product(range(10), repeat=2):
                self.check([begin(), storeyed(storeys), take(first), orders(), free(), would(second),
                            take(second), free(), orders(), put(1, second)])


if __name__ == "__main__":
    unittest.main()
