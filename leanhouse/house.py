"""The calls on a house of cards, and what they answer."""

BEGIN = 0
PUT = 1
STOREYED = 2
WOULD = 3
TAKE = 4
FREE = 5
ORDERS = 6

# How many numbers a call has, by its own number; put's rests come on top.
LENGTHS = (1, 3, 2, 2, 2, 1, 1)

WRONG = -1
NO_PIECE = -2
FULL = -5
NO_HOUSE = -9

CARD = 1
PAIR = 2
MOST_PIECES = 9
MOST_STOREYS = 3


class Piece:
    """A pair or a card that lies, with the numbers of those that it rests on as they were told."""

    def __init__(self, cards, rests):
        self.cards = cards
        self.rests = rests


class House:
    """What stands, by number. Numbers only grow, so the dict's order is the rising one."""

    def __init__(self):
        self.begun = False
        self.pieces = {}
        self.coming = 0


def answers(calls):
    """For each call, in order: how many numbers it answers, then these."""
    house = House()
    told = []
    at = 0
    while at < len(calls):
        end = at + call_length(calls, at)
        answer = answer_call(house, calls[at:end])
        told.append(len(answer))
        told.extend(answer)
        at = end
    return told


def call_length(calls, at):
    """How many numbers the call has that begins there."""
    length = LENGTHS[calls[at]]
    if calls[at] == PUT:
        return length + calls[at + 2]
    return length


def answer_call(house, call):
    """Carry out one call; a refusal is its number alone."""
    name = call[0]
    if name == BEGIN:
        return begin(house)
    if not house.begun:
        return [NO_HOUSE]
    if name == PUT:
        return put(house, call[1], call[3:])
    if name == STOREYED:
        return storeyed(house, call[1])
    if name == WOULD:
        return would(house, call[1])
    if name == TAKE:
        return take(house, call[1])
    if name == FREE:
        return free(house)
    return orders(house)


def begin(house):
    """A house without pieces, instead of what there was."""
    house.begun = True
    clear_away(house)
    return [0]


def put(house, cards, rests):
    """A new piece; the refusals stand in the order in which they count."""
    if cards not in (CARD, PAIR) or len(set(rests)) < len(rests):
        return [WRONG]
    if any([number not in house.pieces for number in rests]):
        return [NO_PIECE]
    if len(house.pieces) >= MOST_PIECES:
        return [FULL]
    return [add_piece(house, cards, rests)]


def storeyed(house, storeys):
    """A house of so many storeys, instead of what there was."""
    if storeys < 1 or storeys > MOST_STOREYS:
        return [WRONG]
    clear_away(house)
    grounds = [[] for place in range(storeys)]
    while len(grounds) > 0:
        grounds = add_storey(house, grounds)
    return [len(house.pieces)]


def would(house, number):
    """What would fall with this piece: how many pieces, how many cards, which."""
    if number not in house.pieces:
        return [NO_PIECE]
    fallen = falling(house, number)
    cards = sum([house.pieces[each].cards for each in fallen])
    return [len(fallen), cards] + fallen


def take(house, number):
    """The piece is gone with all that falls; how many fell."""
    if number not in house.pieces:
        return [NO_PIECE]
    fallen = falling(house, number)
    for each in fallen:
        house.pieces.pop(each)
    return [len(fallen)]


def free(house):
    """How many pieces bear none, then these."""
    bearing = {}
    for piece in house.pieces.values():
        for number in piece.rests:
            bearing[number] = True
    bare = [number for number in house.pieces if number not in bearing]
    return [len(bare)] + bare


def orders(house):
    """In how many orders the house can be built, counted set by set of what already stands."""
    marks = set_marks(house)
    ways = [1]
    for mark in marks:
        ways = ways + [0] * len(ways)
    whole = len(ways) - 1
    for built in range(whole):
        for own, needed in marks:
            if (built & own) == 0 and (built & needed) == needed:
                ways[built + own] += ways[built]
    return [ways[whole]]


def set_marks(house):
    """Of each piece its own bit and the bits of those that it rests on, so that one number tells a set."""
    bits = {}
    marks = []
    own = 1
    for number, piece in house.pieces.items():
        bits[number] = own
        marks.append((own, sum([bits[each] for each in piece.rests])))
        own = own * 2
    return marks


def falling(house, taken):
    """The pieces that fall with this one, rising. One walk is enough: a piece rests on earlier ones alone."""
    fallen = [taken]
    for number, piece in house.pieces.items():
        if any([each in fallen for each in piece.rests]):
            fallen.append(number)
    return fallen


def clear_away(house):
    """No piece is there, and numbers go from 0 on again."""
    house.pieces = {}
    house.coming = 0


def add_piece(house, cards, rests):
    """The new piece's number, which is never used again."""
    number = house.coming
    house.pieces[number] = Piece(cards, rests)
    house.coming = number + 1
    return number


def add_storey(house, grounds):
    """A pair on each ground, a card across each two neighbours; these cards are the next storey's grounds."""
    pairs = []
    for ground in grounds:
        pairs.append(add_piece(house, PAIR, ground))
    above = []
    for left, right in zip(pairs, pairs[1:]):
        above.append([add_piece(house, CARD, [left, right])])
    return above
