"""The calls on a house of cards, and what they answer."""

BEGIN = 0
PUT = 1
STOREYED = 2
WOULD = 3
TAKE = 4
FREE = 5
ORDERS = 6
HIGH = 7
WORTH = 8
PLAY = 9
CARDS = 10
STOREYS = 11
LOOK = 12

# How many numbers a call has, by its own number; put's rests come on top.
LENGTHS = (1, 3, 2, 2, 2, 1, 1, 1, 1, 1, 2, 2, 1)

WRONG = -1
NO_PIECE = -2
FULL = -5
NO_TAKE = -6
NO_HOUSE = -9

CARD = 1
PAIR = 2
MOST_PIECES = 9
MOST_STOREYS = 3
MOST_STOREYS_COUNTED = 100
MOST_CARDS_COUNTED = 1000


class Piece:
    """A pair or a card that lies, with the numbers of those that it rests on as they were told."""

    def __init__(self, cards, rests):
        self.cards = cards
        self.rests = rests


class House:
    """What stands, by number. Numbers only grow, so the dict's order is the rising one."""

    def __init__(self):
        self.begun = False
        self.pieces = {}
        self.coming = 0


def answers(calls):
    """For each call, in order: how many numbers it answers, then these."""
    house = House()
    told = []
    at = 0
    while at < len(calls):
        end = at + call_length(calls, at)
        answer = answer_call(house, calls[at:end])
        told.append(len(answer))
        told.extend(answer)
        at = end
    return told


def call_length(calls, at):
    """How many numbers the call has that begins there."""
    length = LENGTHS[calls[at]]
    if calls[at] == PUT:
        return length + calls[at + 2]
    return length


def answer_call(house, call):
    """Carry out one call; a refusal is its number alone."""
    name = call[0]
    if name == BEGIN:
        return begin(house)
    if not house.begun:
        return [NO_HOUSE]
    if name == PUT:
        return put(house, call[1], call[3:])
    if name == STOREYED:
        return storeyed(house, call[1])
    if name == WOULD:
        return would(house, call[1])
    if name == TAKE:
        return take(house, call[1])
    if name == FREE:
        return free(house)
    if name == ORDERS:
        return orders(house)
    if name == HIGH:
        return high(house)
    if name == WORTH:
        return worth(house)
    if name == PLAY:
        return play(house)
    if name == CARDS:
        return count_cards(call[1])
    if name == STOREYS:
        return count_storeys(call[1])
    return look(house)


def begin(house):
    """A house without pieces, instead of what there was."""
    house.begun = True
    clear_away(house)
    return [0]


def put(house, cards, rests):
    """A new piece; the refusals stand in the order in which they count."""
    if cards not in (CARD, PAIR) or len(set(rests)) < len(rests):
        return [WRONG]
    if any([number not in house.pieces for number in rests]):
        return [NO_PIECE]
    if len(house.pieces) >= MOST_PIECES:
        return [FULL]
    return [add_piece(house, cards, rests)]


def storeyed(house, storeys):
    """A house of so many storeys, instead of what there was."""
    if storeys < 1 or storeys > MOST_STOREYS:
        return [WRONG]
    clear_away(house)
    grounds = [[] for place in range(storeys)]
    while len(grounds) > 0:
        grounds = add_storey(house, grounds)
    return [len(house.pieces)]


def would(house, number):
    """What would fall with this piece: how many pieces, how many cards, which."""
    if number not in house.pieces:
        return [NO_PIECE]
    fallen = falling(house, number)
    cards = sum([house.pieces[each].cards for each in fallen])
    return [len(fallen), cards] + fallen


def take(house, number):
    """The piece is gone with all that falls; how many fell."""
    if number not in house.pieces:
        return [NO_PIECE]
    fallen = falling(house, number)
    for each in fallen:
        house.pieces.pop(each)
    return [len(fallen)]


def free(house):
    """How many pieces bear none, then these."""
    bearing = {}
    for piece in house.pieces.values():
        for number in piece.rests:
            bearing[number] = True
    bare = [number for number in house.pieces if number not in bearing]
    return [len(bare)] + bare


def orders(house):
    """In how many orders the house can be built, counted set by set of what already stands."""
    marks = rest_marks(house)
    ways = [1]
    for mark in marks:
        ways = ways + [0] * len(ways)
    whole = len(ways) - 1
    for built in range(whole):
        for own, needed in marks:
            if (built & own) == 0 and (built & needed) == needed:
                ways[built + own] += ways[built]
    return [ways[whole]]


def high(house):
    """How high the house is, then each piece. Those that a piece rests on came before it, so theirs is known."""
    known = {}
    for number, piece in house.pieces.items():
        known[number] = 1 + max([known[each] for each in piece.rests], default=0)
    heights = list(known.values())
    return [max(heights, default=0)] + heights


def worth(house):
    """What the house is worth, then the lowest piece whose take leaves what's worth 0, if there's one."""
    marks = fall_marks(house)
    worths = set_worths(marks)
    whole = len(worths) - 1
    for number, mark in zip(list(house.pieces), marks):
        if worths[whole - mark[1]] == 0:
            return [worths[whole], number]
    return [worths[whole]]


def play(house):
    """The piece that worth tells is taken; which."""
    told = worth(house)
    if len(told) == 1:
        return [NO_TAKE]
    take(house, told[1])
    return [told[1]]


def count_cards(storeys):
    """How many cards a house of so many storeys has."""
    if storeys > MOST_STOREYS_COUNTED:
        return [WRONG]
    return [cards_needed(storeys)]


def count_storeys(cards):
    """The most storeys that so many cards make, then how many cards are left."""
    if cards > MOST_CARDS_COUNTED:
        return [WRONG]
    storeys = 0
    while cards_needed(storeys + 1) <= cards:
        storeys += 1
    return [storeys, cards - cards_needed(storeys)]


def look(house):
    """How many pieces; of each its number, its cards, on how many it rests, on which as they were told."""
    seen = [len(house.pieces)]
    for number, piece in house.pieces.items():
        seen.extend([number, piece.cards, len(piece.rests)])
        seen.extend(piece.rests)
    return seen


def cards_needed(storeys):
    """The pairs go from so many down to one, the cards across from one fewer down to none."""
    pairs = storeys * (storeys + 1) // 2
    across = storeys * (storeys - 1) // 2
    return PAIR * pairs + CARD * across


def set_worths(marks):
    """What each set of pieces is worth, by its bits. A take leaves a smaller number, which is known by then."""
    size = 1
    for mark in marks:
        size = size * 2
    # Sets that can't stand are counted too: no take leaves one of them, so what they get does no harm.
    worths = []
    for stood in range(size):
        left = [worths[stood & ~falls] for own, falls in marks if (stood & own) != 0]
        worths.append(least_beside(left))
    return worths


def least_beside(numbers):
    """The least number, from 0 on, that isn't among these."""
    least = 0
    while least in numbers:
        least += 1
    return least


def piece_bits(house):
    """A bit of its own for each piece, so that one number tells a set of them."""
    bits = {}
    own = 1
    for number in house.pieces:
        bits[number] = own
        own = own * 2
    return bits


def rest_marks(house):
    """Of each piece its own bit and the bits of those that it rests on."""
    bits = piece_bits(house)
    marks = []
    for number, piece in house.pieces.items():
        marks.append((bits[number], sum([bits[each] for each in piece.rests])))
    return marks


def fall_marks(house):
    """Of each piece its own bit and the bits of all that fall with it, itself among them."""
    bits = piece_bits(house)
    marks = []
    for number in house.pieces:
        marks.append((bits[number], sum([bits[each] for each in falling(house, number)])))
    return marks


def falling(house, taken):
    """The pieces that fall with this one, rising. One walk is enough: a piece rests on earlier ones alone."""
    fallen = [taken]
    for number, piece in house.pieces.items():
        if any([each in fallen for each in piece.rests]):
            fallen.append(number)
    return fallen


def clear_away(house):
    """No piece is there, and numbers go from 0 on again."""
    house.pieces = {}
    house.coming = 0


def add_piece(house, cards, rests):
    """The new piece's number, which is never used again."""
    number = house.coming
    house.pieces[number] = Piece(cards, rests)
    house.coming = number + 1
    return number


def add_storey(house, grounds):
    """A pair on each ground, a card across each two neighbours; these cards are the next storey's grounds."""
    pairs = []
    for ground in grounds:
        pairs.append(add_piece(house, PAIR, ground))
    above = []
    for left, right in zip(pairs, pairs[1:]):
        above.append([add_piece(house, CARD, [left, right])])
    return above
