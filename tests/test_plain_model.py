"""The program beside a slow model that follows the document's words one by one, on many made-up lines."""

import itertools
import random
import unittest

from asking import (begin, cards, free, high, line, look, orders, parted, play, put, storeyed, storeys, take, would,
                    worth)
from leanhouse.house import answers


class Model:
    def __init__(self):
        self.begun = False
        self.pieces = {}
        self.came = 0

    def add(self, cards, rests):
        self.pieces[self.came] = (cards, set(rests), list(rests))
        self.came += 1
        return self.came - 1

    def fall(self, piece, standing):
        down = {piece}
        while True:
            more = {each for each in standing if self.pieces[each][1] & down} - down
            if not more:
                return down
            down |= more

    def build(self, storeys):
        self.pieces = {}
        self.came = 0
        across = [None] * storeys
        for pairs in range(storeys, 0, -1):
            stood = [self.add(2, [] if across[k] is None else [across[k]]) for k in range(pairs)]
            across = [self.add(1, [stood[k], stood[k + 1]]) for k in range(pairs - 1)]
        return len(self.pieces)

    def ways(self, built=frozenset()):
        left = set(self.pieces) - built
        if not left:
            return 1
        return sum(self.ways(built | {each}) for each in left if self.pieces[each][1] <= built)

    def height(self, piece):
        return 1 + max((self.height(each) for each in self.pieces[piece][1]), default=0)

    def value(self, standing, known):
        """What these are worth: the houses that one take leaves are made for real, one by one."""
        if standing not in known:
            left = [self.value(standing - self.fall(piece, standing), known) for piece in standing]
            known[standing] = min(set(range(10)) - set(left))
        return known[standing]

    def best(self):
        """What it's worth, then every piece that leaves nothing to win, rising."""
        known = {}
        standing = frozenset(self.pieces)
        return [self.value(standing, known)] + [piece for piece in sorted(standing)
                                                if self.value(standing - self.fall(piece, standing), known) == 0]

    def put(self, cards, rests):
        if cards not in (1, 2) or len(set(rests)) != len(rests):
            return [-1]
        if not set(rests) <= set(self.pieces):
            return [-2]
        if len(self.pieces) == 9:
            return [-5]
        return [self.add(cards, rests)]

    def answer(self, call):
        name = call[0]
        if name == 0:
            self.begun = True
            self.pieces = {}
            self.came = 0
            return [0]
        if not self.begun:
            return [-9]
        if name == 1:
            return self.put(call[1], call[3:])
        if name == 2:
            return [self.build(call[1])] if call[1] in (1, 2, 3) else [-1]
        if name in (3, 4):
            return self.named(name, call[1])
        if name in (10, 11):
            return self.counted(name, call[1])
        return self.seen(name)

    def seen(self, name):
        if name == 5:
            borne = set().union(*[rests for _, rests, _ in self.pieces.values()])
            bare = sorted(set(self.pieces) - borne)
            return [len(bare)] + bare
        if name == 6:
            return [self.ways()]
        if name == 7:
            heights = [self.height(piece) for piece in sorted(self.pieces)]
            return [max(heights, default=0)] + heights
        if name == 8:
            return self.best()[:2]
        if name == 9:
            return self.played(self.best()[1:])
        told = [len(self.pieces)]
        for piece in sorted(self.pieces):
            cards_in_it, _, rests = self.pieces[piece]
            told += [piece, cards_in_it, len(rests)] + rests
        return told

    def played(self, takes):
        if not takes:
            return [-6]
        self.named(4, takes[0])
        return [takes[0]]

    def counted(self, name, number):
        """Cards are laid storey by storey from the highest on: one pair more in each, and a card across beneath."""
        if number > (100 if name == 10 else 1000):
            return [-1]
        laid = [0, 2]
        while len(laid) < 102:
            pairs = len(laid)
            laid.append(laid[-1] + 2 * pairs + (pairs - 1))
        if name == 10:
            return [laid[number]]
        most = max(made for made in range(102) if laid[made] <= number)
        return [most, number - laid[most]]

    def named(self, name, piece):
        if piece not in self.pieces:
            return [-2]
        down = sorted(self.fall(piece, set(self.pieces)))
        if name == 3:
            return [len(down), sum(self.pieces[each][0] for each in down)] + down
        for each in down:
            del self.pieces[each]
        return [len(down)]


def some_rests(draw, standing):
    """Mostly pieces that stand, each once, in any order; now and then one twice or one that isn't there."""
    rests = draw.sample(standing, min(len(standing), draw.choices((0, 1, 2, 3, 9), (5, 5, 4, 2, 1))[0]))
    if draw.random() < 0.1:
        rests.append(draw.choice(standing + [draw.randrange(12), draw.randrange(100)]))
    return rests


def some_call(draw, standing):
    """A call that is mostly right."""
    def piece():
        return draw.choice(standing) if standing and draw.random() < 0.9 else draw.randrange(100)

    name = draw.choices(range(13), (1, 50, 2, 6, 4, 6, 3, 6, 8, 5, 3, 3, 6))[0]
    if name == 1:
        return put(draw.choice((1, 1, 1, 2, 2, 2, 2, draw.randrange(10))), *some_rests(draw, standing))
    if name == 2:
        return storeyed(draw.choice((1, 2, 3, draw.randrange(10))))
    if name in (3, 4):
        return [name, piece()]
    if name == 10:
        return cards(draw.choice((draw.randrange(201), draw.randrange(6), 100, 101)))
    if name == 11:
        return storeys(draw.choice((draw.randrange(2001), draw.randrange(60), 1000, 1001)))
    return [name]


class BesideTheModel(unittest.TestCase):
    def check(self, calls):
        model = Model()
        wanted = [model.answer(call) for call in calls]
        self.assertEqual(parted(answers(line(calls)), len(calls)), wanted, calls)

    def test_made_up_lines(self):
        draw = random.Random(90)
        for _ in range(300):
            model = Model()
            calls = [] if draw.random() < 0.1 else [begin()]
            wanted = [model.answer(call) for call in calls]
            length = draw.randint(1, 60)
            while len(calls) < length:
                calls.append(some_call(draw, sorted(model.pieces)))
                wanted.append(model.answer(calls[-1]))
            self.assertEqual(parted(answers(line(calls)), len(calls)), wanted, calls)

    def test_every_pair_of_takes_from_every_house_of_storeys(self):
        for made in (1, 2, 3):
            for first, second in itertools.product(range(10), repeat=2):
                self.check([begin(), storeyed(made), take(first), orders(), free(), high(), worth(), look(),
                            would(second), take(second), free(), orders(), high(), worth(), look(),
                            put(1, second), play(), look(), play(), look()])


if __name__ == "__main__":
    unittest.main()
