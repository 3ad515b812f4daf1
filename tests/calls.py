"""Writes calls as numbers, and takes the answers apart again."""

from hiddenwords.puzzle import answers


def numbers(row):
    if isinstance(row, str):
        return [ord(sign) for sign in row]
    return list(row)


def with_length(row):
    return [len(numbers(row))] + numbers(row)


def load(wide, cells, listing):
    return [0, wide] + with_length(cells) + with_length(listing)


def make(wide, high, most, listing, filling):
    return [1, wide, high, most] + with_length(listing) + with_length(filling)


def guess(who, first, last):
    return [2, who, first, last]


def hint():
    return [3]


def parted(told):
    parts = []
    place = 0
    while place < len(told):
        length = told[place]
        parts.append(told[place + 1:place + 1 + length])
        if len(parts[-1]) != length:
            raise AssertionError(f"an answer is cut off: {told}")
        place += 1 + length
    return parts


def ask(*calls):
    """The answers to these calls on one new object, a list for each."""
    return parted(answers([number for call in calls for number in call]))


def last(*calls):
    """The answer to the last of these calls."""
    return ask(*calls)[-1]
