"""The program beside the slow model, on many small games."""

import random
import unittest

from tests.calls import ask, guess, hint, left, load, make, rest, score, tell
from tests.model import Model


def some_text(source, letters, least, most):
    return [ord(source.choice(letters)) for k in range(source.randint(least, most))]


def some_list(source, letters):
    words = [some_text(source, letters, 2, source.choice((2, 3, 4))) for k in range(source.randint(1, 4))]
    listing = []
    for word in words:
        listing += word + [10]
    if source.random() < 0.5:
        listing.pop()
    if source.random() < 0.05:
        listing.insert(source.randint(0, len(listing)), source.choice((10, 65, 97)))
    return listing


def some_square(source):
    """A call that sets a square, or is refused: its name, and what it is given."""
    letters = "abcdefgh"[:source.randint(2, 8)]
    wide = source.randint(2, 4)
    high = source.randint(2, 4)
    if source.random() < 0.4:
        cells = [ord(source.choice(letters)) for k in range(wide * high)]
        return "load", (wide, cells, some_list(source, letters))
    most = source.choice((0, 1, 5, 30, 60))
    return "make", (wide, high, most, some_list(source, letters), some_text(source, letters + "xyz", 1, 5))


def some_game(source):
    calls = []
    for square in range(3):
        calls.append(some_square(source))
        for k in range(source.randint(0, 20)):
            calls.append(("guess", (source.randint(0, 4), source.randint(0, 9), source.randint(0, 9))))
            calls.append((source.choice(("hint", "rest", "left", "tell")), ()))
            calls.append(("score", (source.randint(0, 4),)))
    return calls


def kind_of(name, answer):
    if answer[0] < -1000:
        return name, -1000
    if answer[0] < 0 or answer[0] == 255 or answer == [0]:
        return name, answer[0]
    return name, "well"


WRITTEN = {
    "load": load, "make": make, "guess": guess, "hint": hint, "rest": rest, "left": left, "tell": tell, "score": score,
}
ASKED = [("hint", ()), ("rest", ()), ("left", ()), ("tell", ())] + [("score", (who,)) for who in range(5)]


class Beside(unittest.TestCase):
    def held(self, model, calls):
        """The answers to these calls, which program and model agree on."""
        due = [getattr(model, name)(*given) for name, given in calls]
        told = ask(*[WRITTEN[name](*given) for name, given in calls])
        self.assertEqual(told, due, calls)
        return due

    def test_many_games(self):
        source = random.Random(20)
        seen = {}
        for game in range(400):
            calls = some_game(source)
            for (name, given), answer in zip(calls, self.held(Model(), calls)):
                kind = kind_of(name, answer)
                seen[kind] = seen.get(kind, 0) + 1
        # The games are of little worth if they didn't come to all of these.
        for kind in (("load", "well"), ("load", -1000), ("load", -17), ("load", -33),
                     ("make", "well"), ("make", -1000), ("make", -17), ("make", -33), ("make", -35),
                     ("guess", "well"), ("guess", 255), ("guess", -17), ("guess", -71), ("guess", -22),
                     ("guess", -61), ("hint", "well"), ("hint", -6), ("hint", -61),
                     ("rest", "well"), ("rest", -61), ("left", "well"), ("left", 0), ("left", -61),
                     ("tell", "well"), ("tell", -61), ("score", "well"), ("score", -22), ("score", -61)):
            self.assertGreater(seen.get(kind, 0), 5, (kind, seen))

    def test_every_wide_and_high(self):
        filling = [ord(sign) for sign in "xyzxyzabzxyzxyzxyzcdzxyzxy"]
        listing = [ord(sign) for sign in "abc\nbad\ncd"]
        for wide in range(2, 9):
            for high in range(2, 9):
                self.held(Model(), [("make", (wide, high, 150, listing, filling))] + ASKED)

    def test_large_squares(self):
        source = random.Random(3)
        for game in range(60):
            cells = [ord(source.choice("abcdefgh")) for k in range(64)]
            listing = [ord(source.choice("abcdefgh")) for k in range(source.choice((3, 4)))]
            self.held(Model(), [("load", (8, cells, listing))] + ASKED)

    def test_till_all_are_found(self):
        source = random.Random(7)
        ended = 0
        for game in range(60):
            given = (source.randint(3, 8), source.randint(3, 8), 60, some_list(source, "abcd"),
                     some_text(source, "xyz", 1, 5))
            model = Model()
            if model.make(*given)[0] < 0:
                continue
            ended += 1
            calls = [("make", given)]
            for first, last in source.sample(model.ends(), len(model.words)):
                calls += [("guess", (source.randint(0, 3), first, last))] + ASKED
            self.assertEqual(self.held(Model(), calls)[-9], [-6])
        self.assertGreater(ended, 20)


if __name__ == "__main__":
    unittest.main()
