"""The program beside the slow model, on many small games."""

import random
import unittest

from tests.calls import ask, guess, hint, load, make
from tests.model import Model


def some_text(source, letters, least, most):
    return [ord(source.choice(letters)) for k in range(source.randint(least, most))]


def some_list(source, letters):
    words = [some_text(source, letters, 2, source.choice((2, 3, 4))) for k in range(source.randint(1, 4))]
    listing = []
    for word in words:
        listing += word + [10]
    if source.random() < 0.5:
        listing.pop()
    if source.random() < 0.05:
        listing.insert(source.randint(0, len(listing)), source.choice((10, 65, 97)))
    return listing


def some_square(source):
    """A call that sets a square, or is refused: its name, and what it is given."""
    letters = "abcdefgh"[:source.randint(2, 8)]
    wide = source.randint(2, 4)
    high = source.randint(2, 4)
    if source.random() < 0.4:
        cells = [ord(source.choice(letters)) for k in range(wide * high)]
        return "load", (wide, cells, some_list(source, letters))
    most = source.choice((0, 1, 5, 30, 60))
    return "make", (wide, high, most, some_list(source, letters), some_text(source, letters + "xyz", 1, 5))


def some_game(source):
    calls = []
    for square in range(3):
        calls.append(some_square(source))
        for k in range(source.randint(0, 20)):
            calls.append(("guess", (source.randint(0, 4), source.randint(0, 9), source.randint(0, 9))))
            calls.append(("hint", ()))
    return calls


def kind_of(name, answer):
    if answer[0] < -1000:
        return name, -1000
    if answer[0] < 0 or answer[0] == 255:
        return name, answer[0]
    return name, "well"


WRITTEN = {"load": load, "make": make, "guess": guess, "hint": hint}


class Beside(unittest.TestCase):
    def test_many_games(self):
        source = random.Random(20)
        seen = {}
        for game in range(400):
            calls = some_game(source)
            model = Model()
            due = [getattr(model, name)(*given) for name, given in calls]
            told = ask(*[WRITTEN[name](*given) for name, given in calls])
            self.assertEqual(told, due, calls)
            for (name, given), answer in zip(calls, due):
                kind = kind_of(name, answer)
                seen[kind] = seen.get(kind, 0) + 1
        # The games are of little worth if they didn't come to all of these.
        for kind in (("load", "well"), ("load", -1000), ("load", -17), ("load", -33),
                     ("make", "well"), ("make", -1000), ("make", -17), ("make", -33), ("make", -35),
                     ("guess", "well"), ("guess", 255), ("guess", -17), ("guess", -71), ("guess", -22),
                     ("guess", -61), ("hint", "well"), ("hint", -6), ("hint", -61)):
            self.assertGreater(seen.get(kind, 0), 5, (kind, seen))

    def test_every_wide_and_high(self):
        filling = [ord(sign) for sign in "xyzxyzabzxyzxyzxyzcdzxyzxy"]
        listing = [ord(sign) for sign in "abc\nbad\ncd"]
        for wide in range(2, 9):
            for high in range(2, 9):
                given = (wide, high, 150, listing, filling)
                model = Model()
                due = [model.make(*given), model.hint()]
                self.assertEqual(ask(make(*given), hint()), due, given)

    def test_large_squares(self):
        source = random.Random(3)
        for game in range(60):
            cells = [ord(source.choice("abcdefgh")) for k in range(64)]
            listing = [ord(source.choice("abcdefgh")) for k in range(source.choice((3, 4)))]
            model = Model()
            due = [model.load(8, cells, listing), model.hint()]
            self.assertEqual(ask(load(8, cells, listing), hint()), due)


if __name__ == "__main__":
    unittest.main()
