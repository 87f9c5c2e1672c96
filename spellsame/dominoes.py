"""Rows of dominoes, each with a word above and a word below, and what such rows spell."""

# A word is a byte that says how many letters it has, then room for eight of them.
MOST_LETTERS = 8
WORD_BYTES = 9
DOMINO_BYTES = 18

# Where a side's word begins within its domino.
ABOVE = 0
BELOW = 9

MOST_DOMINOES = 8
LONGEST_ROW = 64

# The refusals, in the order in which they are looked for.
OUT_OF_RANGE = -2
NOT_ALLOWED = -3
NO_ANSWER = -5


def has_long_word(d):
    for start in range(0, len(d), WORD_BYTES):
        if d[start] > MOST_LETTERS:
            return True
    return False


def names_missing_domino(row, n):
    for number in row:
        if number >= n:
            return True
    return False


def word_of(d, number, side):
    start = number * DOMINO_BYTES + side
    first_letter = start + 1
    return d[first_letter:first_letter + d[start]]


def spelled(d, row, side):
    letters = []
    for number in row:
        letters.extend(word_of(d, number, side))
    return letters


def dm_ahead(d, row):
    """By how much, and on which side, the row is ahead: the coded length of w, then w's letters."""
    n = len(d) // DOMINO_BYTES
    if n < 1 or n > MOST_DOMINOES or len(row) > LONGEST_ROW:
        return [OUT_OF_RANGE]
    if has_long_word(d) or names_missing_domino(row, n):
        return [NOT_ALLOWED]
    above = spelled(d, row, ABOVE)
    below = spelled(d, row, BELOW)
    shared = min(len(above), len(below))
    if above[:shared] != below[:shared]:
        return [NO_ANSWER]
    if len(below) > shared:
        rest = below[shared:]
        return [2 * len(rest) + 1] + rest
    rest = above[shared:]
    return [2 * len(rest)] + rest
