"""Looking for the first right square that words can be put into."""

from hiddenwords.board import is_right

EMPTY = ""


def fits(letters, word, path):
    for letter, cell in zip(word, path):
        held = letters[cell]
        if held != letter and held != EMPTY:
            return False
    return True


def with_word(letters, word, path):
    changed = list(letters)
    for letter, cell in zip(word, path):
        changed[cell] = letter
    return changed


def filled(letters, filling):
    whole = []
    used = 0
    for letter in letters:
        if letter == EMPTY:
            whole.append(filling[used % len(filling)])
            used += 1
        else:
            whole.append(letter)
    return whole


class Search:
    def __init__(self, board, words, filling, most):
        self.board = board
        self.words = words
        self.filling = filling
        self.most = most
        self.choices = [board.paths(len(word)) for word in words]
        self.tries = 0
        self.stopped = False
        self.made = None

    def run(self):
        self.put_from(0, [EMPTY] * self.board.size)

    def is_over(self):
        return self.stopped or self.made is not None

    # Calls itself once a word: twelve deep at most.
    def put_from(self, number, letters):
        if number == len(self.words):
            self.judge(letters)
            return
        word = self.words[number]
        for path in self.choices[number]:
            if fits(letters, word, path):
                self.try_at(number, letters, path)
                if self.is_over():
                    return

    def try_at(self, number, letters, path):
        # Only a try that is really due may stop the search: with just as many
        # as allowed, the square may be found or known not to be there.
        if self.tries == self.most:
            self.stopped = True
            return
        self.tries += 1
        self.put_from(number + 1, with_word(letters, self.words[number], path))

    def judge(self, letters):
        whole = filled(letters, self.filling)
        if is_right(self.board, whole, self.words):
            self.made = whole
