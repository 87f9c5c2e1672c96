"""Point 2 of the promises: dm_least."""

import itertools
import random
import unittest

from spellsame.dominoes import dm_ahead, dm_least
from tests.helper import ask, ask_in_time, domino, dominoes


def expected_least(pairs, m):
    """Point 2 by going through all rows, shortest first and in order, for sets that are not refused before."""
    rows = [((), b"", b"")]
    for size in range(1, m + 1):
        rows = [(row + (i,), above + pair[0], below + pair[1])
                for row, above, below in rows for i, pair in enumerate(pairs)]
        for row, above, below in rows:
            if above == below:
                return [size, *row]
    return [-5]


def expected_where_alike(pairs, m, most_rows):
    """The same, leaving out rows that differ above and below for good; None if there are too many rows."""
    rows = [((), b"", b"")]
    for size in range(1, m + 1):
        longer = []
        for row, above, below in rows:
            for i, pair in enumerate(pairs):
                a, b = above + pair[0], below + pair[1]
                if a == b:
                    return [size, *row, i]
                if a.startswith(b) or b.startswith(a):
                    longer.append((row + (i,), a, b))
        if len(longer) > most_rows:
            return None
        rows = longer
    return [-5]


# The shortest row that fits has 16 dominoes.
SIXTEEN = ((b"a", b"b"), (b"bbb", b""), (b"", b"baaa"))
SIXTEEN_ROW = [1, 0, 0, 2, 0, 1, 0, 2, 0, 0, 1, 1, 0, 0, 0, 2]

# Four dominoes bring words below, four take them off again and leave another letter each.
GROWING = tuple((b"", bytes([c] * 8)) for c in b"abcd") + tuple(
    (bytes([c] * 8), bytes([e])) for c, e in zip(b"abcd", b"bcda"))

# The same with a row of 15 that fits at last.
GROWING_THAT_FITS = tuple((b"", bytes([c]) + b"abcdabc") for c in b"abcd") + tuple(
    (bytes([c]) + b"abcdabc", bytes([c])) for c in b"abcd")

# Sets that keep a search busiest, found by trying: hardly a row of theirs can be told to lead nowhere before its end.
BUSY = (
    ((b"01", b"10"), (b"", b"011"), (b"001111", b""), (b"1", b"0"),
     (b"0", b"00"), (b"", b"01"), (b"011", b"0"), (b"", b"1001111")),
    ((b"03", b"2"), (b"", b"03"), (b"11231311", b"0"), (b"2", b"1"),
     (b"", b"11231311"), (b"", b"23"), (b"", b"2"), (b"3", b"")),
    ((b"6", b"0"), (b"", b"62"), (b"", b"03205556"), (b"03205556", b"3"),
     (b"", b"6"), (b"4", b"07"), (b"", b"4"), (b"62", b"56")),
    ((b"", b"01101011"), (b"", b"10"), (b"01101011", b"01"), (b"10", b"0"),
     (b"0111", b""), (b"0", b"00"), (b"1", b"01"), (b"", b"1110")),
    ((b"", b"0011"), (b"01010", b"1"), (b"", b"10"), (b"", b"010"),
     (b"0", b"1011"), (b"1", b"00"), (b"11", b"1110"), (b"", b"01011")),
)


class LeastCase(unittest.TestCase):
    def check(self, m, d, answer):
        self.assertEqual(ask(self, dm_least, m, d), answer)

    def check_in_time(self, m, d, answer):
        self.assertEqual(ask_in_time(self, dm_least, m, d), answer)


class Ordinary(LeastCase):
    def test_one_domino(self):
        self.check(16, dominoes((b"ab", b"ab")), [1, 0])
        self.check(16, dominoes((b"a", b"b"), (b"ab", b"ab")), [1, 1])

    def test_several_dominoes(self):
        self.check(16, dominoes((b"ab", b"a"), (b"", b"b")), [2, 0, 1])
        self.check(16, dominoes((b"", b"c"), (b"ab", b"a"), (b"c", b"b")), [3, 1, 2, 0])
        self.check(16, dominoes((b"a", b"baa"), (b"ab", b"aa"), (b"bba", b"bb")), [4, 2, 1, 2, 0])

    def test_two_of_a_length_the_lesser_number_first(self):
        self.check(16, dominoes((b"x", b"y"), (b"a", b"a"), (b"b", b"b")), [1, 1])
        # 0 1 and 1 0 both fit.
        self.check(16, dominoes((b"a", b""), (b"", b"a")), [2, 0, 1])
        self.check(16, dominoes((b"", b"a"), (b"a", b"")), [2, 0, 1])
        # 0 1 2 and 0 2 1 both fit; so do others that begin with 1 or 2.
        self.check(16, dominoes((b"aa", b""), (b"", b"a"), (b"", b"a")), [3, 0, 1, 1])
        self.check(16, dominoes((b"ab", b"a"), (b"c", b""), (b"", b"bc"), (b"", b"b")), [2, 0, 3])

    def test_they_differ_late(self):
        # 0 2 and 0 3, then 0 1 .. which is longer.
        self.check(16, dominoes((b"ab", b""), (b"", b"a"), (b"c", b"abc"), (b"", b"ab")), [2, 0, 2])
        self.check(16, dominoes((b"abc", b""), (b"", b"ab"), (b"", b"c"), (b"", b"a"), (b"", b"bc")), [3, 0, 1, 2])
        self.check(16, dominoes((b"abc", b""), (b"", b"bc"), (b"", b"c"), (b"", b"a"), (b"", b"ab")), [3, 0, 3, 1])

    def test_shorter_ahead_of_lesser_numbers(self):
        # 0 1 fits, but so does 2 by itself.
        self.check(16, dominoes((b"a", b""), (b"", b"a"), (b"b", b"b")), [1, 2])
        # 0 1 1 fits, but so does 2 3.
        self.check(16, dominoes((b"aa", b""), (b"", b"a"), (b"b", b""), (b"", b"b")), [2, 2, 3])

    def test_ahead_above_and_then_below(self):
        pairs = ((b"a", b"aab"), (b"abab", b"a"), (b"", b"b"))
        d = dominoes(*pairs)
        self.assertEqual(dm_ahead(d, [0])[0] % 2, 1)
        self.assertEqual(dm_ahead(d, [0, 1]), [2, 98])
        self.check(16, d, [3, 0, 1, 2])

    def test_a_domino_more_than_once(self):
        self.check(16, dominoes((b"aaa", b""), (b"", b"aa")), [5, 0, 0, 1, 1, 1])
        self.check(16, dominoes((b"", b"aa"), (b"aaa", b"")), [5, 0, 0, 0, 1, 1])

    def test_what_is_ahead_is_spelled_in_more_than_one_way(self):
        # Behind 0, ab is spelled by 3, or by 1 and 2; only with 3 are four dominoes enough.
        d = dominoes((b"abcc", b""), (b"", b"a"), (b"", b"b"), (b"", b"ab"), (b"", b"c"))
        self.check(4, d, [4, 0, 3, 4, 4])
        self.check(16, d, [4, 0, 3, 4, 4])
        self.check(3, d, [-5])
        d = dominoes((b"aabcc", b""), (b"", b"aa"), (b"", b"b"), (b"", b"aab"), (b"", b"c"))
        self.check(4, d, [4, 0, 3, 4, 4])
        d = dominoes((b"", b"abcc"), (b"a", b""), (b"b", b""), (b"ab", b""), (b"c", b""))
        self.check(4, d, [4, 0, 3, 4, 4])
        d = dominoes((b"", b"c"), (b"", b"ba"), (b"", b"b"), (b"", b"a"), (b"ccba", b""))
        self.check(4, d, [4, 0, 0, 1, 4])

    def test_no_row_at_all(self):
        self.check(16, dominoes((b"a", b"b")), [-5])
        self.check(16, dominoes((b"aa", b"a")), [-5])
        self.check(16, dominoes((b"a", b"aa"), (b"b", b"bb")), [-5])
        self.check(16, dominoes((b"ab", b"a"), (b"b", b"ba")), [-5])

    def test_as_many_letters_but_never_in_order(self):
        self.check(16, dominoes((b"ab", b"ba"), (b"ba", b"ab")), [-5])
        self.check(16, dominoes((b"ab", b"a"), (b"b", b"ab"), (b"a", b"bb")), [-5])

    def test_the_row_begins_alike_and_ends_unlike(self):
        self.check(16, dominoes((b"abx", b"ab"), (b"c", b"xd")), [-5])
        self.check(16, dominoes((b"cx", b"x"), (b"ab", b"abd")), [-5])


class Edges(LeastCase):
    def test_m_1(self):
        self.check(1, dominoes((b"a", b"a")), [1, 0])
        self.check(1, dominoes((b"a", b"b"), (b"", b""), (b"c", b"c")), [1, 1])
        self.check(1, dominoes((b"a", b""), (b"", b"a")), [-5])

    def test_exactly_m_dominoes(self):
        for m in range(2, 17):
            answer = [16] + SIXTEEN_ROW if m == 16 else [-5]
            self.check(m, dominoes(*SIXTEEN), answer)
        five = dominoes((b"aaa", b""), (b"", b"aa"))
        for m in range(1, 17):
            self.check(m, five, [5, 0, 0, 1, 1, 1] if m >= 5 else [-5])
        fifteen = dominoes((b"a" * 8, b""), (b"", b"a" * 7))
        self.check(16, fifteen, [15] + [0] * 7 + [1] * 8)
        self.check(15, fifteen, [15] + [0] * 7 + [1] * 8)
        self.check(14, fifteen, [-5])

    def test_the_row_of_16_fits(self):
        self.assertEqual(dm_ahead(dominoes(*SIXTEEN), SIXTEEN_ROW), [0])

    def test_rows_of_more_than_16(self):
        # No row of 50 or fewer fits.
        self.check(16, dominoes((b"110", b"1"), (b"1", b"0"), (b"0", b"110")), [-5])

    def test_one_domino_in_all(self):
        for m in (1, 2, 16):
            self.check(m, dominoes((b"abc", b"abc")), [1, 0])
            self.check(m, dominoes((b"abc", b"ab")), [-5])

    def test_eight_dominoes(self):
        chain = [(b"b", b"a"), (b"c", b"b"), (b"d", b"c"), (b"e", b"d"), (b"f", b"e"), (b"g", b"f")]
        self.check(16, dominoes((b"", b"g"), *chain, (b"a", b"")), [8, 0, 6, 5, 4, 3, 2, 1, 7])
        self.check(8, dominoes((b"", b"g"), *chain, (b"a", b"")), [8, 0, 6, 5, 4, 3, 2, 1, 7])
        self.check(7, dominoes((b"", b"g"), *chain, (b"a", b"")), [-5])
        self.check(16, dominoes(*[(b"a", b"b")] * 7, (b"a", b"a")), [1, 7])

    def test_no_letters_on_one_side(self):
        self.check(16, dominoes((b"", b"ab"), (b"a", b""), (b"b", b"")), [3, 0, 1, 2])
        self.check(16, dominoes((b"", b"ab"), (b"b", b""), (b"a", b"")), [3, 0, 2, 1])
        self.check(16, dominoes((b"a", b""), (b"b", b"")), [-5])
        self.check(16, dominoes((b"", b"a")), [-5])

    def test_no_letters_on_both_sides(self):
        self.check(1, dominoes((b"", b"")), [1, 0])
        self.check(16, dominoes((b"a", b""), (b"", b""), (b"", b"a")), [1, 1])
        self.check(16, dominoes((b"", b""), (b"a", b"a")), [1, 0])
        self.check(16, dominoes((b"a", b"a"), (b"", b"")), [1, 0])

    def test_words_of_eight_letters(self):
        self.check(16, dominoes((b"abcdefgh", b"abcdefgh")), [1, 0])
        self.check(16, dominoes((b"abcdefgh", b"abcdefgx")), [-5])
        self.check(16, dominoes((b"abcdefgh", b""), (b"", b"abcdefgh")), [2, 0, 1])
        self.check(16, dominoes((b"abcdefgh", b"abcdefg"), (b"abcdefgh", b"habcdefg"), (b"", b"h")), [2, 0, 2])
        self.check(16, dominoes((b"abcdefgh", b"a"), (b"", b"bcdefgh")), [2, 0, 1])

    def test_letters_0_and_255(self):
        self.check(16, dominoes(([0], [0])), [1, 0])
        self.check(16, dominoes(([255], [255])), [1, 0])
        self.check(16, dominoes(([0], [255])), [-5])
        self.check(16, dominoes(([0], []), ([255], []), ([], [255, 0])), [3, 1, 0, 2])
        self.check(16, dominoes(([0, 0], [0])), [-5])
        self.check(16, dominoes(([0, 255], [0]), ([], [255])), [2, 0, 1])

    def test_every_letter_is_itself_alone(self):
        for letter in range(256):
            other = (letter + 1) % 256
            self.check(2, dominoes(([letter], [letter])), [1, 0])
            self.check(2, dominoes(([letter], [other])), [-5])
        # Letters whose digits, one behind the other, would be the same.
        self.check(16, dominoes(([1, 12], [11, 2])), [-5])
        self.check(16, dominoes(([1, 1], [11])), [-5])
        self.check(16, dominoes(([12, 3], [1, 23])), [-5])
        self.check(16, dominoes(([10, 0], [100])), [-5])
        # Letters whose digits come back to front.
        self.check(16, dominoes(([12], [21])), [-5])
        self.check(16, dominoes(([1, 21], [12, 1])), [-5])

    def test_bytes_behind_the_letters_are_no_letters(self):
        for padding in (0, 97, 98, 255):
            self.check(16, dominoes((b"ab", b"a"), (b"", b"b"), padding=padding), [2, 0, 1])
            self.check(16, dominoes((b"a", b"b"), padding=padding), [-5])
            self.check(16, dominoes((b"", b""), padding=padding), [1, 0])
        self.check(16, [1, 97, 1, 2, 3, 4, 5, 6, 7, 1, 97, 9, 8, 7, 6, 5, 4, 3], [1, 0])
        self.check(16, [1, 97, 98, 2, 3, 4, 5, 6, 7, 2, 97, 98, 8, 7, 6, 5, 4, 3], [-5])

    def test_two_dominoes_alike(self):
        self.check(16, dominoes((b"a", b"a"), (b"a", b"a")), [1, 0])
        self.check(16, dominoes((b"x", b""), (b"a", b""), (b"a", b""), (b"", b"aa"), (b"", b"aa")), [3, 1, 1, 3])
        self.check(16, dominoes(*[(b"a", b"")] * 4, *[(b"", b"a")] * 4), [2, 0, 4])
        self.check(16, dominoes(*[(b"", b"aa")] * 4, *[(b"aaa", b"")] * 4), [5, 0, 0, 0, 4, 4])


class InTime(LeastCase):
    def test_leads_grow_long(self):
        self.check_in_time(16, dominoes(*GROWING), [-5])
        self.check_in_time(16, dominoes(*[(below, above) for above, below in GROWING]), [-5])

    def test_leads_grow_long_and_a_row_fits(self):
        row = [0, 0, 1, 2, 3, 4, 4, 5, 6, 7, 4, 5, 6, 1, 2]
        d = dominoes(*GROWING_THAT_FITS)
        self.assertEqual(dm_ahead(d, row), [0])
        self.check_in_time(16, d, [15] + row)
        self.check_in_time(14, d, [-5])

    def test_busy_sets(self):
        for pairs in BUSY:
            self.check_in_time(16, dominoes(*pairs), [-5])

    def test_busy_sets_back_to_front(self):
        for pairs in BUSY:
            self.check_in_time(16, dominoes(*[(above[::-1], below[::-1]) for above, below in pairs]), [-5])

    def test_every_row_stays_possible_above(self):
        words = [bytes(w) for w in itertools.product(b"ab", repeat=3)]
        self.check_in_time(16, dominoes(*[(w, b"") for w in words]), [-5])
        self.check_in_time(16, dominoes(*[(w, b"") for w in words[:7]], (b"", b"bbbbbbbb")), [-5])
        self.check_in_time(16, dominoes(*[(bytes([c]), b"") for c in range(7)], (b"", bytes(range(8)))), [-5])
        self.check_in_time(16, dominoes(*[(bytes([c] * 8), b"") for c in range(7)], (b"", b"x")), [-5])

    def test_above_and_below_by_themselves(self):
        sevens = (b"aaaaaaa", b"aaaaaab", b"abaaaaa", b"baaaaaa")
        eights = (b"aaaaaaab", b"aaaaabaa", b"baaaaaaa", b"abaaaaaa")
        self.check_in_time(16, dominoes(*[(w, b"") for w in sevens], *[(b"", w) for w in eights]), [-5])
        self.check_in_time(16, dominoes((b"a" * 8, b""), (b"", b"a" * 7), *[(b"b" * 8, b""), (b"", b"b" * 7)] * 3),
                           [15] + [0] * 7 + [1] * 8)

    def test_one_letter_alone(self):
        self.check_in_time(16, dominoes(*[(b"a" * (i + 1), b"a" * i) for i in range(8)]), [-5])
        self.check_in_time(16, dominoes(*[(b"a" * 8, b"")] * 4, *[(b"", b"a" * 7)] * 4), [15] + [0] * 7 + [4] * 8)

    def test_no_row_fits_though_all_letters_are_there_as_often(self):
        turned = [(b"a" * i + b"b", b"b" + b"a" * i) for i in range(1, 8)]
        self.check_in_time(16, dominoes(*turned, (b"a", b"")), [-5])


class Refusals(LeastCase):
    def test_no_dominoes(self):
        for m in (-2147483648, -2147483647, -17, -1, 0, 1, 2, 15, 16, 17, 18, 2147483646, 2147483647):
            self.check(m, [], [-2])

    def test_m_out_of_its_range(self):
        for m in (-2147483648, -16, -1, 0, 17, 32, 2147483647):
            self.check(m, dominoes((b"a", b"a")), [-2])

    def test_more_than_eight_dominoes(self):
        self.check(16, dominoes(*[(b"a", b"a")] * 9), [-2])

    def test_range_before_what_is_not_allowed(self):
        long_word = domino(b"a", b"a")
        long_word[0] = 9
        self.check(0, long_word, [-2])
        self.check(17, long_word, [-2])
        self.check(16, long_word * 9, [-2])

    def test_word_too_long(self):
        for size in (9, 10, 18, 128, 255):
            for place in (0, 9):
                d = domino(b"abcdefgh", b"abcdefgh")
                d[place] = size
                for m in (1, 16):
                    self.check(m, d, [-3])

    def test_word_too_long_in_any_domino_of_eight(self):
        for number in range(8):
            for place in (0, 9):
                d = dominoes(*[(b"ab", b"ab")] * 8)
                d[18 * number + place] = 9
                self.check(16, d, [-3])

    def test_letters_greater_than_8_are_no_lengths(self):
        self.check(16, dominoes(([9], [9]), padding=200), [1, 0])

    def test_not_allowed_before_no_row(self):
        d = dominoes((b"a", b"b"), (b"c", b"d"))
        self.check(16, d, [-5])
        d[18 + 9] = 9
        self.check(16, d, [-3])
        self.check(1, d, [-3])


class AgainstAllRows(LeastCase):
    def faces(self):
        words = [bytes(w) for size in range(3) for w in itertools.product((0, 1), repeat=size)]
        return list(itertools.product(words, repeat=2))

    def compare(self, pairs, sizes):
        longest = expected_least(pairs, max(sizes))
        d = dominoes(*pairs, padding=1)
        before = list(d)
        # Where m is just enough, the least is left to spare.
        for m in (*sizes, max(longest[0], 1)):
            expected = longest if longest[0] <= m else [-5]
            if dm_least(m, d) != expected:
                self.check(m, d, expected)
        self.assertEqual(d, before)

    def test_every_small_domino_and_pair(self):
        for face in self.faces():
            self.compare((face,), range(1, 9))
        for pairs in itertools.product(self.faces(), repeat=2):
            self.compare(pairs, range(1, 7))

    def test_small_sets_of_three(self):
        # Every ninth of them is enough, as 9 has no divisor in common with how many faces there are.
        for pairs in itertools.islice(itertools.product(self.faces(), repeat=3), 0, None, 9):
            self.compare(pairs, (4, 5))

    def test_many_larger_sets(self):
        rng = random.Random(20)
        compared = 0
        while compared < 1500:
            longest = rng.randint(1, 8)
            letters = rng.randint(1, 3)
            pairs = [[bytes([rng.randrange(letters) for place in range(rng.randint(0, longest))]) for side in range(2)]
                     for number in range(rng.randint(1, 8))]
            m = rng.randint(1, 16)
            expected = expected_where_alike(pairs, m, 3000)
            if expected is not None:
                compared += 1
                d = dominoes(*pairs, padding=rng.randrange(256))
                if dm_least(m, d) != expected:
                    self.check(m, d, expected)
                if expected != [-5] and dm_least(expected[0], d) != expected:
                    self.check(expected[0], d, expected)


class EachCallByItself(LeastCase):
    def test_other_calls_between(self):
        calls = [(16, dominoes(*SIXTEEN)), (15, dominoes(*SIXTEEN)), (16, dominoes((b"ab", b"a"), (b"", b"b"))),
                 (1, dominoes((b"ab", b"a"), (b"", b"b"))), (0, []), (16, [9] + [0] * 17), (3, dominoes((b"", b"")))]
        alone = [dm_least(m, d) for m, d in calls]
        for order in itertools.permutations(range(len(calls)), 3):
            for i in order:
                dm_ahead(calls[2][1], [0, 1])
                self.assertEqual(dm_least(*calls[i]), alone[i])


if __name__ == "__main__":
    unittest.main()
