"""How the tests ask the program: calls as lists in, one answer a call out."""

from leanhouse.house import answers


def begin():
    return [0]


def put(cards, *rests):
    return [1, cards, len(rests)] + list(rests)


def storeyed(storeys):
    return [2, storeys]


def would(piece):
    return [3, piece]


def take(piece):
    return [4, piece]


def free():
    return [5]


def orders():
    return [6]


def high():
    return [7]


def worth():
    return [8]


def play():
    return [9]


def cards(storeys_asked):
    return [10, storeys_asked]


def storeys(cards_there):
    return [11, cards_there]


def look():
    return [12]


def line(calls):
    """The calls one behind another, in one list."""
    joined = []
    for call in calls:
        joined.extend(call)
    return joined


def parted(told, how_many):
    """The answers, one list a call; fails if the counts don't cut the whole list into so many."""
    parts = []
    at = 0
    while at < len(told):
        end = at + 1 + told[at]
        if told[at] < 1 or end > len(told):
            raise AssertionError(f"a wrong count at {at} of {told}")
        parts.append(told[at + 1:end])
        at = end
    if len(parts) != how_many:
        raise AssertionError(f"{len(parts)} answers to {how_many} calls: {told}")
    return parts


def ask(*calls):
    """What each of the calls is answered, on a new table."""
    return parted(answers(line(calls)), len(calls))


def look_around(pieces):
    """Calls that change nothing and together show what stands and what rests on what."""
    calls = [free(), orders()]
    for piece in range(pieces):
        calls.append(would(piece))
    return calls
