"""Letters, words and lists of words, read from bytes."""

LETTERS = "abcdefghijklmnopqrstuvwxyz"
FIRST_LETTER = 97
LAST_LETTER = 122
LINE_END = 10

SHORTEST_WORD = 2
LONGEST_WORD = 8
MOST_WORDS = 12

NO_REFUSAL = 0
BAD_LINE = -1000
BAD_COUNT = -28
LISTED_TWICE = -17


def are_letters(row):
    return all([FIRST_LETTER <= byte <= LAST_LETTER for byte in row])


def text_of(row):
    return "".join([LETTERS[byte - FIRST_LETTER] for byte in row])


def bytes_of(letters):
    return [ord(letter) for letter in letters]


def backwards(word):
    return "".join(reversed(word))


def lines_of(row):
    lines = []
    line = []
    for byte in row:
        if byte == LINE_END:
            lines.append(line)
            line = []
        else:
            line.append(byte)
    # Behind the last line end an empty rest is no line; ahead of one it is.
    if len(line) > 0:
        lines.append(line)
    return lines


def is_word(line):
    return SHORTEST_WORD <= len(line) <= LONGEST_WORD and are_letters(line)


def has_twins(words):
    known = {}
    for word in words:
        # The word itself is asked for before it is noted, so that one that's
        # the same backwards is not taken for its own twin.
        if word in known or backwards(word) in known:
            return True
        known[word] = True
    return False


def list_refusal(lines):
    for number, line in enumerate(lines, start=1):
        if not is_word(line):
            return BAD_LINE - number
    if len(lines) == 0 or len(lines) > MOST_WORDS:
        return BAD_COUNT
    if has_twins([text_of(line) for line in lines]):
        return LISTED_TWICE
    return NO_REFUSAL
