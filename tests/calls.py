"""Writes calls as numbers, and takes the answers apart again."""

from hiddenwords.puzzle import answers


def numbers(row):
    if isinstance(row, str):
        return [ord(sign) for sign in row]
    return list(row)


def counted(row):
    """How many numbers a row has, then these: rows are handed in so, and rest and left answer so."""
    return [len(row)] + numbers(row)


def load(wide, cells, listing):
    return [0, wide] + counted(cells) + counted(listing)


def make(wide, high, most, listing, filling):
    return [1, wide, high, most] + counted(listing) + counted(filling)


def guess(who, first, last):
    return [2, who, first, last]


def hint():
    return [3]


def rest():
    return [4]


def left():
    return [5]


def tell():
    return [6]


def score(who):
    return [7, who]


def state():
    """The calls that together tell all there is, and change nothing."""
    return [hint(), rest(), left(), tell()] + [score(who) for who in range(4)]


def parted(told):
    parts = []
    place = 0
    while place < len(told):
        length = told[place]
        parts.append(told[place + 1:place + 1 + length])
        if len(parts[-1]) != length:
            raise AssertionError(f"an answer is cut off: {told}")
        place += 1 + length
    return parts


def ask(*calls):
    """The answers to these calls on one new object, a list for each."""
    return parted(answers([number for call in calls for number in call]))


def last(*calls):
    """The answer to the last of these calls."""
    return ask(*calls)[-1]
