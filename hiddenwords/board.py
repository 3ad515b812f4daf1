"""The cells of a square, the ways across it, and where words are read on it."""

from hiddenwords.words import backwards

LEAST_SIDE = 2
MOST_SIDE = 8

# How many columns and rows a step goes: right, right and down, down, left and
# down, left, left and up, up, right and up.
WAYS = ((1, 0), (1, 1), (0, 1), (-1, 1), (-1, 0), (-1, -1), (0, -1), (1, -1))
HALF_TURN = 4

# No letter, so that no word is read across the end of a line.
GAP = " "


def is_side(length):
    return LEAST_SIDE <= length <= MOST_SIDE


class Board:
    def __init__(self, wide, high):
        self.wide = wide
        self.high = high
        self.size = wide * high
        self.rays = [self.cells_from(cell, way) for cell, way in all_places(self.size)]
        self.track = self.whole_track()

    def cells_from(self, cell, way):
        cells = []
        column = cell % self.wide
        row = cell // self.wide
        while 0 <= column < self.wide and 0 <= row < self.high:
            cells.append(row * self.wide + column)
            column += WAYS[way][0]
            row += WAYS[way][1]
        return cells

    # In the order of the rays, which is that of places: the search and the
    # first place of a word lean on it.
    def paths(self, length):
        return [ray[:length] for ray in self.rays if len(ray) >= length]

    # Every line of the square once, one behind another, so that a word is
    # looked for in one text: going to each of its places would make the search
    # for squares slow. The number behind the last cell stands for a gap.
    def whole_track(self):
        track = []
        for cell in range(self.size):
            for way in range(HALF_TURN):
                place = cell * len(WAYS) + way
                if len(self.rays[place + HALF_TURN]) == 1:
                    track.extend(self.rays[place])
                    track.append(self.size)
        return track


def all_places(size):
    places = []
    for cell in range(size):
        for way in range(len(WAYS)):
            places.append((cell, way))
    return places


def read_path(letters, path):
    return "".join([letters[cell] for cell in path])


def read_track(board, letters):
    return read_path(letters + [GAP], board.track)


# Stops at two, as no more can be right; and places may share cells, so each is
# looked for from the cell behind the last one's first on.
def times_in(text, word):
    first = text.find(word)
    if first < 0:
        return 0
    if text.find(word, first + 1) < 0:
        return 1
    return 2


def is_right(board, letters, words):
    text = read_track(board, letters)
    for word in words:
        turned = backwards(word)
        due = 2 if turned == word else 1
        # The track has each line in one direction: a word that's read against
        # it is there as the word turned round.
        if times_in(text, word) + times_in(text, turned) != due:
            return False
    return True


def first_path(board, letters, word):
    paths = board.paths(len(word))
    held = [path for path in paths if read_path(letters, path) == word]
    return held[0]


# The first place is enough: a right square has no other, but the same cells
# again for a word that's the same backwards.
def used_cells(board, letters, words):
    used = {}
    for word in words:
        for cell in first_path(board, letters, word):
            used[cell] = True
    return used


def path_between(board, first, last):
    across = abs(last % board.wide - first % board.wide)
    down = abs(last // board.wide - first // board.wide)
    steps = max(across, down)
    if steps == 0 or across not in (0, steps) or down not in (0, steps):
        return []
    stride = (last - first) // steps
    return [first + stride * step for step in range(steps + 1)]
