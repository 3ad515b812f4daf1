"""The calls once more, slowly and word for word as the document tells them.

It shares nothing with the program: cells are pairs of column and row, places
are gone to one by one, and the search goes through all ways to put words in.
"""

STEPS = [(1, 0), (1, 1), (0, 1), (-1, 1), (-1, 0), (-1, -1), (0, -1), (1, -1)]


class Stop(Exception):
    pass


def letter(byte):
    return ord("a") <= byte <= ord("z")


def places(wide, high, length):
    for row in range(high):
        for column in range(wide):
            for across, down in STEPS:
                cells = [(column + across * k, row + down * k) for k in range(length)]
                if all(0 <= x < wide and 0 <= y < high for x, y in cells):
                    yield cells


def places_of(square, wide, high, word):
    return [cells for cells in places(wide, high, len(word)) if [square[cell] for cell in cells] == word]


def right(square, wide, high, words):
    for word in words:
        if len(places_of(square, wide, high, word)) != (2 if word == word[::-1] else 1):
            return False
    return True


def read_list(listing):
    """The refusal that is due, or None; and the words."""
    lines = bytes(listing).split(b"\n")
    if lines[-1] == b"":
        lines.pop()
    words = [list(line) for line in lines]
    for k, word in enumerate(words):
        if not (2 <= len(word) <= 8 and all(letter(byte) for byte in word)):
            return -1000 - (k + 1), words
    if not 1 <= len(words) <= 12:
        return -28, words
    for k, word in enumerate(words):
        for other in words[:k]:
            if word in (other, other[::-1]):
                return -17, words
    return None, words


class Model:
    def __init__(self):
        self.square = None

    def begin(self, square, wide, high, words):
        self.square, self.wide, self.high, self.words = square, wide, high, words
        self.found = {}
        self.wrong = [0, 0, 0, 0]

    def ends(self):
        """The first and the last cell of each word."""
        found = [places_of(self.square, self.wide, self.high, word)[0] for word in self.words]
        return [tuple(y * self.wide + x for x, y in (cells[0], cells[-1])) for cells in found]

    def load(self, wide, cells, listing):
        high = len(cells) // wide if wide else 0
        if not (2 <= wide <= 8 and 2 <= high <= 8 and wide * high == len(cells)):
            return [-22]
        if not all(letter(byte) for byte in cells) or len(listing) > 200:
            return [-22]
        refusal, words = read_list(listing)
        if refusal is not None:
            return [refusal]
        square = {(k % wide, k // wide): byte for k, byte in enumerate(cells)}
        if not right(square, wide, high, words):
            return [-33]
        self.begin(square, wide, high, words)
        return [len(words)]

    def make(self, wide, high, most, listing, filling):
        if not (2 <= wide <= 8 and 2 <= high <= 8 and most <= 2000 and len(listing) <= 200):
            return [-22]
        refusal, words = read_list(listing)
        if refusal is not None:
            return [refusal]
        if not (1 <= len(filling) <= 64 and all(letter(byte) for byte in filling)):
            return [-71]
        tries = 0
        try:
            for square in squares({}, wide, high, words):
                if square is None:
                    tries += 1
                    if tries > most:
                        raise Stop
                    continue
                fill(square, wide, high, filling)
                if right(square, wide, high, words):
                    self.begin(square, wide, high, words)
                    return [tries]
        except Stop:
            return [-35]
        return [-33]

    def guess(self, who, first, last):
        if self.square is None:
            return [-61]
        if who > 3 or first >= self.wide * self.high or last >= self.wide * self.high:
            return [-22]
        for length in range(2, 9):
            for cells in places(self.wide, self.high, length):
                ends = [y * self.wide + x for x, y in (cells[0], cells[-1])]
                if ends == [first, last]:
                    return self.told(who, [self.square[cell] for cell in cells])
        return [-71]

    def told(self, who, letters):
        for number, word in enumerate(self.words):
            if word in (letters, letters[::-1]):
                if number in self.found:
                    return [-17]
                self.found[number] = who
                return [number]
        self.wrong[who] += 1
        return [255]

    def hint(self):
        if self.square is None:
            return [-61]
        for number, word in enumerate(self.words):
            if number not in self.found:
                x, y = places_of(self.square, self.wide, self.high, word)[0][0]
                return [number, y * self.wide + x]
        return [-6]

    def rest(self):
        if self.square is None:
            return [-61]
        used = set()
        for number in self.found:
            for cells in places_of(self.square, self.wide, self.high, self.words[number]):
                used.update(cells)
        unused = [self.square[x, y] for y in range(self.high) for x in range(self.wide) if (x, y) not in used]
        return [len(unused), *unused]

    def left(self):
        if self.square is None:
            return [-61]
        numbers = sorted(set(range(len(self.words))) - set(self.found))
        return [len(numbers), *numbers]

    def tell(self):
        if self.square is None:
            return [-61]
        return [self.wide] + [self.square[x, y] for y in range(self.high) for x in range(self.wide)]

    def score(self, who):
        if self.square is None:
            return [-61]
        if who > 3:
            return [-22]
        return [sum(1 for finder in self.found.values() if finder == who), self.wrong[who]]


def squares(square, wide, high, words):
    """None for each word that's put in, and each square with all of them."""
    if not words:
        yield dict(square)
        return
    for cells in places(wide, high, len(words[0])):
        if all(square.get(cell, byte) == byte for cell, byte in zip(cells, words[0])):
            yield None
            yield from squares({**square, **dict(zip(cells, words[0]))}, wide, high, words[1:])


def fill(square, wide, high, filling):
    used = 0
    for row in range(high):
        for column in range(wide):
            if (column, row) not in square:
                square[column, row] = filling[used % len(filling)]
                used += 1
