"""The puzzle, its calls, and their answers as one list of numbers."""

from hiddenwords.board import Board, first_path, is_right, is_side, path_between, read_path, used_cells
from hiddenwords.making import Search
from hiddenwords.reader import Reader
from hiddenwords.words import NO_REFUSAL, are_letters, backwards, bytes_of, lines_of, list_refusal, text_of

LOAD = 0
MAKE = 1
GUESS = 2
HINT = 3
REST = 4
LEFT = 5
TELL = 6
SCORE = 7

OUT_OF_RANGE = -22
NOT_RIGHT = -33
TOO_MANY_TRIES = -35
BAD_FILLING = -71
NO_SQUARE = -61
NOT_IN_LINE = -71
FOUND_ALREADY = -17
ALL_FOUND = -6
NO_WORD = 255

PLAYERS = 4
MOST_WRONG = 1000000
MOST_TRIES = 2000
LONGEST_LIST = 200
LONGEST_FILLING = 64


class UnknownCall(Exception):
    pass


def is_square(wide, cells):
    if not is_side(wide) or len(cells) % wide != 0:
        return False
    return is_side(len(cells) // wide) and are_letters(cells)


def is_filling(filling):
    return 1 <= len(filling) <= LONGEST_FILLING and are_letters(filling)


class Puzzle:
    def __init__(self):
        self.board = None
        self.letters = []
        self.words = []
        self.finders = []
        self.wrong = [0] * PLAYERS

    def begin(self, board, letters, words):
        self.board = board
        self.letters = letters
        self.words = words
        self.finders = [None] * len(words)
        self.wrong = [0] * PLAYERS

    def load(self, wide, cells, listing):
        if not is_square(wide, cells) or len(listing) > LONGEST_LIST:
            return [OUT_OF_RANGE]
        lines = lines_of(listing)
        refusal = list_refusal(lines)
        if refusal != NO_REFUSAL:
            return [refusal]
        words = [text_of(line) for line in lines]
        board = Board(wide, len(cells) // wide)
        letters = list(text_of(cells))
        if not is_right(board, letters, words):
            return [NOT_RIGHT]
        self.begin(board, letters, words)
        return [len(words)]

    def make(self, wide, high, most, listing, filling):
        if not is_side(wide) or not is_side(high):
            return [OUT_OF_RANGE]
        if most > MOST_TRIES or len(listing) > LONGEST_LIST:
            return [OUT_OF_RANGE]
        lines = lines_of(listing)
        refusal = list_refusal(lines)
        if refusal != NO_REFUSAL:
            return [refusal]
        if not is_filling(filling):
            return [BAD_FILLING]
        words = [text_of(line) for line in lines]
        search = Search(Board(wide, high), words, text_of(filling), most)
        search.run()
        if search.stopped:
            return [TOO_MANY_TRIES]
        if search.made is None:
            return [NOT_RIGHT]
        self.begin(search.board, search.made, words)
        return [search.tries]

    def guess(self, who, first, last):
        if self.board is None:
            return [NO_SQUARE]
        if who >= PLAYERS or first >= self.board.size or last >= self.board.size:
            return [OUT_OF_RANGE]
        path = path_between(self.board, first, last)
        if len(path) == 0:
            return [NOT_IN_LINE]
        number = self.number_of(read_path(self.letters, path))
        if number == NO_WORD:
            self.wrong[who] = min(self.wrong[who] + 1, MOST_WRONG)
            return [NO_WORD]
        if self.finders[number] is not None:
            return [FOUND_ALREADY]
        self.finders[number] = who
        return [number]

    def number_of(self, text):
        turned = backwards(text)
        for number, word in enumerate(self.words):
            if word == text or word == turned:
                return number
        return NO_WORD

    def hint(self):
        if self.board is None:
            return [NO_SQUARE]
        numbers = self.unfound()
        if len(numbers) == 0:
            return [ALL_FOUND]
        path = first_path(self.board, self.letters, self.words[numbers[0]])
        return [numbers[0], path[0]]

    def unfound(self):
        return [number for number, finder in enumerate(self.finders) if finder is None]

    def rest(self):
        if self.board is None:
            return [NO_SQUARE]
        found = [word for word, finder in zip(self.words, self.finders) if finder is not None]
        used = used_cells(self.board, self.letters, found)
        unused = [letter for cell, letter in enumerate(self.letters) if cell not in used]
        return [len(unused)] + bytes_of(unused)

    def left(self):
        if self.board is None:
            return [NO_SQUARE]
        numbers = self.unfound()
        return [len(numbers)] + numbers

    def tell(self):
        if self.board is None:
            return [NO_SQUARE]
        return [self.board.wide] + bytes_of(self.letters)

    def score(self, who):
        if self.board is None:
            return [NO_SQUARE]
        if who >= PLAYERS:
            return [OUT_OF_RANGE]
        return [self.finders.count(who), self.wrong[who]]


def load_answer(puzzle, reader):
    wide = reader.take()
    cells = reader.take_row()
    listing = reader.take_row()
    return puzzle.load(wide, cells, listing)


def make_answer(puzzle, reader):
    wide = reader.take()
    high = reader.take()
    most = reader.take()
    listing = reader.take_row()
    filling = reader.take_row()
    return puzzle.make(wide, high, most, listing, filling)


def guess_answer(puzzle, reader):
    who = reader.take()
    first = reader.take()
    last = reader.take()
    return puzzle.guess(who, first, last)


def call_answer(puzzle, reader):
    call = reader.take()
    if call == LOAD:
        return load_answer(puzzle, reader)
    if call == MAKE:
        return make_answer(puzzle, reader)
    if call == GUESS:
        return guess_answer(puzzle, reader)
    if call == HINT:
        return puzzle.hint()
    if call == REST:
        return puzzle.rest()
    if call == LEFT:
        return puzzle.left()
    if call == TELL:
        return puzzle.tell()
    if call == SCORE:
        return puzzle.score(reader.take())
    raise UnknownCall(f"no call has the number {call}")


def answers(calls):
    puzzle = Puzzle()
    reader = Reader(calls)
    told = []
    while not reader.is_done():
        answer = call_answer(puzzle, reader)
        told.append(len(answer))
        told.extend(answer)
    return told
