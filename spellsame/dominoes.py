"""Rows of dominoes, each with a word above and a word below, and what such rows spell."""

# A word is a byte that says how many letters it has, then room for eight of them.
MOST_LETTERS = 8
WORD_BYTES = 9
DOMINO_BYTES = 18

# Where a side's word begins within its domino.
ABOVE = 0
BELOW = 9

MOST_DOMINOES = 8
LONGEST_ROW = 64
LONGEST_SEARCH = 16
MOST_COUNTED = 2
MOST_OF_ONE_LETTER = 64
LONGEST_OF_ONE_LETTER = 1000

# With this on top, letters from 0 to 255 are numbers of three digits each.
LETTER_BASE = 100
LETTER_SIGNS = 3

# A lead is what each side spells beyond the other, as a pair of texts, one of them empty at least.
NO_LEAD = ("", "")

# The refusals, in the order in which they are looked for.
OUT_OF_RANGE = -2
NOT_ALLOWED = -3
NO_ANSWER = -5


def has_long_word(d):
    for start in range(0, len(d), WORD_BYTES):
        if d[start] > MOST_LETTERS:
            return True
    return False


def names_missing_domino(row, n):
    for number in row:
        if number >= n:
            return True
    return False


def word_of(d, number, side):
    start = number * DOMINO_BYTES + side
    first_letter = start + 1
    return d[first_letter:first_letter + d[start]]


def spelled(d, row, side):
    letters = []
    for number in row:
        letters.extend(word_of(d, number, side))
    return letters


def dm_ahead(d, row):
    """By how much, and on which side, the row is ahead: the coded length of w, then w's letters."""
    n = len(d) // DOMINO_BYTES
    if n < 1 or n > MOST_DOMINOES or len(row) > LONGEST_ROW:
        return [OUT_OF_RANGE]
    if has_long_word(d) or names_missing_domino(row, n):
        return [NOT_ALLOWED]
    above = spelled(d, row, ABOVE)
    below = spelled(d, row, BELOW)
    shared = min(len(above), len(below))
    if above[:shared] != below[:shared]:
        return [NO_ANSWER]
    if len(below) > shared:
        rest = below[shared:]
        return [2 * len(rest) + 1] + rest
    rest = above[shared:]
    return [2 * len(rest)] + rest


def text_of(letters):
    """A word as one text, which can be compared and cut at once; each letter takes the same room in it."""
    return "".join([str(LETTER_BASE + letter) for letter in letters])


def text_pairs(d):
    """Each domino as a pair of texts, the words above and below."""
    pairs = []
    for number in range(len(d) // DOMINO_BYTES):
        pairs.append((text_of(word_of(d, number, ABOVE)), text_of(word_of(d, number, BELOW))))
    return pairs


def lead_after(lead, pair):
    """The lead once a domino lies behind it, or None if the two sides then differ."""
    above = lead[0] + pair[0]
    below = lead[1] + pair[1]
    if above.startswith(below):
        return (above[len(below):], "")
    if below.startswith(above):
        return ("", below[len(above):])
    return None


def backwards(pair):
    return (pair[0][::-1], pair[1][::-1])


def from_other_end(lead):
    """The lead that the dominoes to come must leave, read from the end of the row, to even this one out."""
    return (lead[1][::-1], lead[0][::-1])


def fewest_by_gain(pairs, m):
    """For each length that some dominoes, m at most, gain above over below: how few of them can do it."""
    gains = [len(pair[0]) - len(pair[1]) for pair in pairs]
    fewest = {0: 0}
    last = [0]
    for number in range(1, m + 1):
        reached = []
        for total in last:
            for gain in gains:
                if total + gain not in fewest:
                    fewest[total + gain] = number
                    reached.append(total + gain)
        last = reached
    return fewest


def catchers(pairs, side):
    """The most that one domino gains for a side, and that side's words, each behind how far it falls short of that."""
    gains = [len(pair[side]) - len(pair[1 - side]) for pair in pairs]
    most = max(gains)
    shortfalls = {}
    for pair, gain in zip(pairs, gains):
        text = pair[side]
        if text != "":
            shortfalls[text] = min(most - gain, shortfalls.get(text, most - gain))
    return (most, sorted([(shortfall, text) for text, shortfall in shortfalls.items()]))


def can_spell(ahead, words, spare):
    """Whether words that fall short by no more than spare in all spell what is ahead, the last beyond it if need be."""
    size = len(ahead)
    short = {0: 0}
    for place in range(0, size, LETTER_SIGNS):
        if place in short:
            so_far = short[place]
            for shortfall, text in words:
                if so_far + shortfall > spare:
                    break
                end = place + len(text)
                if end < size:
                    if ahead.startswith(text, place) and short.get(end, spare + 1) > so_far + shortfall:
                        short[end] = so_far + shortfall
                elif text.startswith(ahead[place:]):
                    return True
    return False


def can_catch_up(ahead, catching, left):
    # What left dominoes gain is the most times left, less all their shortfalls: it must come to what is ahead.
    if ahead == "":
        return True
    spare = catching[0] * left - len(ahead)
    return spare >= 0 and can_spell(ahead, catching[1], spare)


class Outlook:
    """Tells leads that no dominoes to come can even out; a lead that passes may still be such a one."""

    def __init__(self, pairs, m):
        self.fewest = fewest_by_gain(pairs, m)
        self.catching_above = catchers(pairs, 0)
        self.catching_below = catchers(pairs, 1)

    def allows(self, lead, left):
        """False only if the lead can't be evened out by left dominoes or fewer."""
        needed = self.fewest.get(len(lead[1]) - len(lead[0]), left + 1)
        if needed > left:
            return False
        return can_catch_up(lead[0], self.catching_below, left) and can_catch_up(lead[1], self.catching_above, left)


class Search:
    """Goes through the leads that rows leave, by the rows' lengths: each lead once, with the first row to it."""

    def __init__(self, pairs, m):
        self.pairs = pairs
        self.outlook = Outlook(pairs, m)
        self.left = m
        self.seen = {}
        self.levels = [{NO_LEAD: []}]

    def last_level(self):
        return self.levels[-1]

    def grow(self):
        self.left -= 1
        seen = self.seen
        numbered = list(enumerate(self.pairs))
        last = self.last_level()
        level = {}
        # Leads stand in the order of their first rows: what comes to a new lead first is the first row to it.
        for lead, row in last.items():
            for number, pair in numbered:
                longer = lead_after(lead, pair)
                if longer is not None and longer not in seen:
                    seen[longer] = True
                    if self.outlook.allows(longer, self.left):
                        level[longer] = row + [number]
        self.levels.append(level)


def first_meeting(level, other_level):
    for lead in level:
        if from_other_end(lead) in other_level:
            return lead
    return None


def way_out(lead, pairs, levels):
    """The first row that evens the lead out, by the levels of the search from the end, the last of which has it."""
    row = []
    for level in reversed(levels[:-1]):
        for number, pair in enumerate(pairs):
            longer = lead_after(lead, pair)
            if longer is not None and from_other_end(longer) in level:
                row.append(number)
                lead = longer
                break
    return row


def first_shortest_row(pairs, m):
    """The first of the shortest rows that fit and have m dominoes at most, or None."""
    # Rows are searched from both ends at once: two halves leave far fewer leads than a whole.
    start = Search(pairs, m)
    end = Search([backwards(pair) for pair in pairs], m)
    # No domino at all would leave no lead either, but a row that fits has one at least.
    start.grow()
    # Both sides have got so many dominoes in all; the leads within a shortest row come up at neither end before.
    for length in range(1, m + 1):
        lead = first_meeting(start.last_level(), end.last_level())
        if lead is not None:
            return start.last_level()[lead] + way_out(lead, pairs, end.levels)
        if length < m:
            if len(start.last_level()) <= len(end.last_level()):
                start.grow()
            else:
                end.grow()
    return None


def search_refusal(m, d, most_dominoes):
    """The number by which a search through rows of m dominoes at most is refused, or None."""
    n = len(d) // DOMINO_BYTES
    if n < 1 or n > most_dominoes or m < 1 or m > LONGEST_SEARCH:
        return OUT_OF_RANGE
    if has_long_word(d):
        return NOT_ALLOWED
    return None


def dm_least(m, d):
    """The first of the shortest rows that fit and have m dominoes at most: how many dominoes, then their numbers."""
    refusal = search_refusal(m, d, MOST_DOMINOES)
    if refusal is not None:
        return [refusal]
    row = first_shortest_row(text_pairs(d), m)
    if row is None:
        return [NO_ANSWER]
    return [len(row)] + row


def one_longer(rows, pairs, outlook, left):
    """How many rows leave each lead, once each of the rows has got one domino more."""
    longer_rows = {}
    for lead, how_many in rows.items():
        for pair in pairs:
            longer = lead_after(lead, pair)
            if longer is not None and outlook.allows(longer, left):
                longer_rows[longer] = longer_rows.get(longer, 0) + how_many
    return longer_rows


def dm_count(m, d):
    """How many rows of m dominoes at most fit and have no shorter beginning that fits."""
    refusal = search_refusal(m, d, MOST_COUNTED)
    if refusal is not None:
        return [refusal]
    pairs = text_pairs(d)
    outlook = Outlook(pairs, m)
    rows = {NO_LEAD: 1}
    counted = 0
    for left in range(m - 1, -1, -1):
        rows = one_longer(rows, pairs, outlook, left)
        # Whatever is longer than a row that fits has a beginning that fits: such a row goes no further.
        counted += rows.pop(NO_LEAD, 0)
    return [counted]


def gains_of_ones(a, b):
    """The different lengths that single dominoes gain above over below."""
    gains = {}
    for above, below in zip(a, b):
        gains[above - below] = True
    return list(gains)


def fewest_to_even_out(gains):
    """The fewest gains, each as often as need be, that come to 0 in all, or None."""
    # Their order is free: a loss can follow whenever the total is above 0, else a gain, so totals stay small.
    rises = [gain for gain in gains if gain > 0]
    falls = [gain for gain in gains if gain < 0]
    seen = {}
    last = rises
    number = 1
    while len(last) > 0:
        number += 1
        reached = []
        for total in last:
            steps = falls if total > 0 else rises
            for gain in steps:
                if total + gain == 0:
                    return number
                if total + gain not in seen:
                    seen[total + gain] = True
                    reached.append(total + gain)
        last = reached
    return None


def dm_ones(a, b):
    """The fewest dominoes of a row that fits, where all letters are the same: a of them above, b below."""
    n = len(a)
    if n < 1 or n > MOST_OF_ONE_LETTER:
        return [OUT_OF_RANGE]
    if max(a) > LONGEST_OF_ONE_LETTER or max(b) > LONGEST_OF_ONE_LETTER:
        return [NOT_ALLOWED]
    gains = gains_of_ones(a, b)
    if 0 in gains:
        return [1]
    fewest = fewest_to_even_out(gains)
    if fewest is None:
        return [NO_ANSWER]
    return [fewest]
