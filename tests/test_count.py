"""Point 3 of the promises: dm_count."""

import itertools
import random
import unittest

from spellsame.dominoes import dm_ahead, dm_count, dm_least
from tests.helper import ask, ask_in_time, domino, dominoes


def counts_by_length(pairs, m):
    """How many rows of each length up to m count, by going through all rows; each is looked at with its beginnings."""
    rows = [(b"", b"", False)]
    counts = []
    for size in range(m):
        longer = []
        for above, below, has_fitted in rows:
            for pair in pairs:
                fits_before = has_fitted or (size > 0 and above == below)
                longer.append((above + pair[0], below + pair[1], fits_before))
        rows = longer
        counts.append(len([1 for above, below, has_fitted in rows if above == below and not has_fitted]))
    return counts


def expected_count(pairs, m):
    return [sum(counts_by_length(pairs, m))]


class CountCase(unittest.TestCase):
    def check(self, m, d, answer):
        self.assertEqual(ask(self, dm_count, m, d), answer)

    def check_in_time(self, m, d, answer):
        self.assertEqual(ask_in_time(self, dm_count, m, d), answer)


class Ordinary(CountCase):
    def test_none(self):
        self.check(16, dominoes((b"a", b"b")), [0])
        self.check(16, dominoes((b"aa", b"a")), [0])
        self.check(16, dominoes((b"a", b"aa"), (b"b", b"bb")), [0])
        self.check(16, dominoes((b"ab", b"a"), (b"b", b"ba")), [0])

    def test_one(self):
        self.check(16, dominoes((b"a", b"a")), [1])
        self.check(16, dominoes((b"ab", b"a"), (b"c", b"bc")), [1])
        self.check(16, dominoes((b"ab", b"a"), (b"", b"b")), [1])

    def test_several(self):
        # 0 1 and 1 0
        self.check(2, dominoes((b"a", b""), (b"", b"a")), [2])
        # 0 1 1, 1 0 1 and 1 1 0
        self.check(3, dominoes((b"aa", b""), (b"", b"a")), [3])

    def test_rows_with_a_shorter_beginning_that_fits(self):
        # 0 by itself counts; 0 0 and longer fit too, and do not count.
        self.check(16, dominoes((b"a", b"a")), [1])
        # 0 1 and 1 0; 0 0 1 1 and 1 1 0 0, but not 0 1 0 1 and its like.
        self.check(4, dominoes((b"a", b""), (b"", b"a")), [4])
        # Twice the Catalan numbers 1, 1, 2, 5.
        self.check(8, dominoes((b"a", b""), (b"", b"a")), [2 * (1 + 1 + 2 + 5)])
        self.check(16, dominoes((b"a", b""), (b"", b"a")), [2 * (1 + 1 + 2 + 5 + 14 + 42 + 132 + 429)])

    def test_a_middle_that_fits_does_not_matter(self):
        d = dominoes((b"a", b""), (b"", b"a"))
        self.assertEqual(dm_ahead(d, [0, 1]), [0])
        # 0 1 1 0 has a beginning that fits; 0 0 1 1 has 0 1 only as its middle.
        self.check(3, d, [2])
        self.check(4, d, [2 + 2])

    def test_alike_are_counted_by_their_numbers(self):
        self.check(16, dominoes((b"a", b"a"), (b"a", b"a")), [2])
        self.check(1, dominoes((b"a", b"a"), (b"a", b"a")), [2])
        self.check(16, dominoes((b"a", b"b"), (b"a", b"b")), [0])
        self.check(16, dominoes((b"", b""), (b"", b"")), [2])

    def test_different_dominoes_that_leave_the_same(self):
        # 0 and 1 both leave nothing, by different words.
        self.check(16, dominoes((b"a", b"a"), (b"bc", b"bc")), [2])

    def test_fits_by_itself_beside_one_that_doesnt(self):
        self.check(16, dominoes((b"a", b"a"), (b"a", b"b")), [1])
        self.check(16, dominoes((b"a", b"b"), (b"a", b"a")), [1])
        # 1 alone: behind 0 the lead stays, however many of 1 follow.
        self.check(16, dominoes((b"aa", b"a"), (b"a", b"a")), [1])
        self.check(16, dominoes((b"", b""), (b"a", b"")), [1])

    def test_ahead_above_and_then_below(self):
        pairs = ((b"aaa", b""), (b"", b"aa"))
        self.check(16, dominoes(*pairs), expected_count(pairs, 16))
        self.check(5, dominoes(*pairs), [10])


class Edges(CountCase):
    def test_m_1(self):
        self.check(1, dominoes((b"a", b"a")), [1])
        self.check(1, dominoes((b"a", b"")), [0])
        self.check(1, dominoes((b"a", b"a"), (b"b", b"b")), [2])
        self.check(1, dominoes((b"a", b""), (b"", b"a")), [0])

    def test_exactly_m_dominoes(self):
        fifteen = dominoes((b"a" * 8, b""), (b"", b"a" * 7))
        self.check(14, fifteen, [0])
        # All 15 over 7 orders: none of them has a shorter beginning that fits, as 7 and 8 have no common divisor.
        self.check(15, fifteen, [6435])
        self.check(16, fifteen, [6435])
        pair = dominoes((b"a", b""), (b"", b"a"))
        for m in range(1, 17):
            self.check(m, pair, [sum(2 * c for c in (1, 1, 2, 5, 14, 42, 132, 429)[:m // 2])])

    def test_a_row_of_16(self):
        self.check(15, dominoes((b"ab", b""), (b"", b"ab")), [2 * (1 + 1 + 2 + 5 + 14 + 42 + 132)])
        self.check(16, dominoes((b"ab", b""), (b"", b"ab")), [2 * (1 + 1 + 2 + 5 + 14 + 42 + 132 + 429)])

    def test_every_m_against_all_rows(self):
        for pairs in (((b"aab", b"a"), (b"a", b"baa")), ((b"a", b""), (b"", b"aaaa")), ((b"ab", b""), (b"b", b"abb")),
                      ((b"aaa", b"a"), (b"", b"aaaaa")), ((b"a", b"ab"), (b"ba", b"a")),
                      ((b"aba", b"ab"), (b"b", b"ab"))):
            counts = counts_by_length(pairs, 12)
            for m in range(1, 13):
                self.check(m, dominoes(*pairs), [sum(counts[:m])])

    def test_one_domino(self):
        for m in (1, 2, 16):
            self.check(m, dominoes((b"abc", b"abc")), [1])
            self.check(m, dominoes((b"abc", b"ab")), [0])
            self.check(m, dominoes((b"", b"")), [1])

    def test_words_of_no_letters(self):
        self.check(16, dominoes((b"", b"a"), (b"", b"b")), [0])
        self.check(16, dominoes((b"", b""), (b"a", b"b")), [1])
        self.check(16, dominoes((b"a", b""), (b"", b"")), [1])

    def test_words_of_eight_letters(self):
        self.check(16, dominoes((b"abcdefgh", b"abcdefgh")), [1])
        self.check(16, dominoes((b"abcdefgh", b"abcdefgx")), [0])
        self.check(16, dominoes((b"abcdefgh", b""), (b"", b"abcdefgh")), [2 * (1 + 1 + 2 + 5 + 14 + 42 + 132 + 429)])
        self.check(2, dominoes((b"abcdefgh", b"abcdefg"), (b"", b"h")), [1])

    def test_letters_0_and_255(self):
        self.check(16, dominoes(([0], [0]), ([255], [255])), [2])
        self.check(16, dominoes(([0], [255])), [0])
        self.check(16, dominoes(([0, 255], [0]), ([], [255])), [1])
        self.check(16, dominoes(([0, 0], [0])), [0])

    def test_bytes_behind_the_letters_are_no_letters(self):
        for padding in (0, 97, 98, 255):
            self.check(16, dominoes((b"ab", b"a"), (b"", b"b"), padding=padding), [1])
            self.check(16, dominoes((b"a", b"b"), padding=padding), [0])
            self.check(16, dominoes((b"", b""), padding=padding), [1])
        self.check(16, [1, 97, 1, 2, 3, 4, 5, 6, 7, 1, 97, 9, 8, 7, 6, 5, 4, 3], [1])
        self.check(16, [1, 97, 98, 2, 3, 4, 5, 6, 7, 2, 97, 98, 8, 7, 6, 5, 4, 3], [0])


class InTime(CountCase):
    def test_every_row_stays_possible_to_the_end(self):
        self.check_in_time(16, dominoes((b"a", b""), (b"b", b"")), [0])
        self.check_in_time(16, dominoes((b"", b"abcdefgh"), (b"", b"ijklmnop")), [0])
        self.check_in_time(16, dominoes((b"abcdefgh", b""), (b"abcdefgi", b"")), [0])
        self.check_in_time(16, dominoes((b"aaaaaaaa", b"a"), (b"aaaaaaab", b"a")), [0])

    def test_one_letter_alone(self):
        for long, short in itertools.product(range(1, 9), repeat=2):
            pairs = ((b"a" * long, b""), (b"", b"a" * short))
            answer = ask_in_time(self, dm_count, 16, dominoes(*pairs))
            self.assertEqual(ask_in_time(self, dm_count, 10, dominoes(*pairs)), expected_count(pairs, 10))
            self.assertGreater(answer[0], 0)

    def test_what_is_ahead_repeats(self):
        self.check_in_time(16, dominoes((b"abababab", b""), (b"", b"ababab")), [expected_of_lengths(4, -3, 16)])
        self.check_in_time(16, dominoes((b"aaaaaaaa", b"a"), (b"a", b"aaaaaaaa")), [expected_of_lengths(7, -7, 16)])


def expected_of_lengths(first, second, m):
    """Where every row is alike as far as both sides go: how many walks by two steps first come back at m at most."""
    walks = {0: 1}
    counted = 0
    for size in range(m):
        longer = {}
        for place, how_many in walks.items():
            for gain in (first, second):
                longer[place + gain] = longer.get(place + gain, 0) + how_many
        counted += longer.pop(0, 0)
        walks = longer
    return counted


class Refusals(CountCase):
    def test_no_dominoes(self):
        for m in (-2147483648, -2147483647, -17, -1, 0, 1, 2, 15, 16, 17, 18, 2147483646, 2147483647):
            self.check(m, [], [-2])

    def test_m_out_of_its_range(self):
        for m in (-2147483648, -16, -1, 0, 17, 32, 2147483647):
            self.check(m, dominoes((b"a", b"a")), [-2])

    def test_more_than_two_dominoes(self):
        self.check(16, dominoes(*[(b"a", b"a")] * 3), [-2])
        self.check(16, dominoes(*[(b"a", b"a")] * 8), [-2])

    def test_range_before_what_is_not_allowed(self):
        long_word = domino(b"a", b"a")
        long_word[0] = 9
        self.check(0, long_word, [-2])
        self.check(17, long_word, [-2])
        self.check(16, long_word * 3, [-2])

    def test_word_too_long(self):
        for size in (9, 10, 18, 128, 255):
            for number in (0, 1):
                for place in (0, 9):
                    d = dominoes((b"abcdefgh", b"abcdefgh"), (b"ab", b"ba"))
                    d[18 * number + place] = size
                    for m in (1, 16):
                        self.check(m, d, [-3])
                        self.check(m, d[18 * number:18 * number + 18], [-3])

    def test_letters_greater_than_8_are_no_lengths(self):
        self.check(16, dominoes(([9], [9]), padding=200), [1])

    def test_none_that_fit_is_no_refusal(self):
        self.check(16, dominoes((b"a", b"b")), [0])
        self.check(1, dominoes((b"a", b""), (b"", b"b")), [0])


class AgainstAllRows(CountCase):
    def faces(self):
        words = [bytes(w) for size in range(4) for w in itertools.product((0, 1), repeat=size)]
        return list(itertools.product(words, repeat=2))

    def compare(self, pairs, counts, m):
        d = dominoes(*pairs, padding=1)
        before = list(d)
        if dm_count(m, d) != [sum(counts[:m])]:
            self.check(m, d, [sum(counts[:m])])
        self.assertEqual(d, before)

    def test_every_small_domino(self):
        for face in self.faces():
            counts = counts_by_length((face,), 16)
            for m in range(1, 17):
                self.compare((face,), counts, m)

    def test_every_small_pair(self):
        for number, pairs in enumerate(itertools.product(self.faces(), repeat=2)):
            counts = counts_by_length(pairs, 6)
            self.compare(pairs, counts, 6)
            self.compare(pairs, counts, 1 + number % 5)

    def test_pairs_of_one_letter_up_to_10(self):
        for lengths in itertools.product(range(4), repeat=4):
            pairs = ((b"a" * lengths[0], b"a" * lengths[1]), (b"a" * lengths[2], b"a" * lengths[3]))
            counts = counts_by_length(pairs, 10)
            for m in (7, 9, 10):
                self.compare(pairs, counts, m)

    def test_many_larger_pairs(self):
        rng = random.Random(30)
        for number in range(300):
            longest = rng.randint(1, 8)
            letters = rng.randint(1, 2)
            pairs = [[bytes([rng.randrange(letters) for place in range(rng.randint(0, longest))]) for side in range(2)]
                     for number in range(rng.randint(1, 2))]
            m = rng.randint(1, 10)
            self.compare(pairs, counts_by_length(pairs, m), m)


class EachCallByItself(CountCase):
    def test_other_calls_between(self):
        calls = [(16, dominoes((b"a", b""), (b"", b"a"))), (3, dominoes((b"a", b""), (b"", b"a"))),
                 (16, dominoes((b"ab", b"a"), (b"", b"b"))), (16, dominoes((b"a", b"b"))), (0, []),
                 (16, [9] + [0] * 17), (3, dominoes((b"", b"")))]
        alone = [dm_count(m, d) for m, d in calls]
        for order in itertools.permutations(range(len(calls)), 3):
            for i in order:
                dm_ahead(calls[2][1], [0, 1])
                dm_least(*calls[(i + 1) % 7])
                self.assertEqual(dm_count(*calls[i]), alone[i])

    def test_some_row_counts_where_there_is_a_least_one(self):
        for pairs in itertools.product(itertools.product((b"", b"a", b"b", b"ab", b"ba"), repeat=2), repeat=2):
            d = dominoes(*pairs)
            for m in (2, 16):
                self.assertEqual(dm_count(m, d)[0] > 0, dm_least(m, d)[0] > 0)


if __name__ == "__main__":
    unittest.main()
