"""Point 1 of the promises: dm_ahead."""

import itertools
import unittest

from spellsame.dominoes import dm_ahead
from tests.helper import ask, domino, dominoes


def expected_ahead(pairs, row):
    """Point 1 said over bytes, on its own, for lists that are not refused before."""
    above = b"".join(pairs[i][0] for i in row)
    below = b"".join(pairs[i][1] for i in row)
    if above.startswith(below):
        w = above[len(below):]
        return [2 * len(w), *w]
    if below.startswith(above):
        w = below[len(above):]
        return [2 * len(w) + 1, *w]
    return [-5]


class AheadCase(unittest.TestCase):
    def check(self, d, row, answer):
        self.assertEqual(ask(self, dm_ahead, d, row), answer)


class Ordinary(AheadCase):
    def test_ahead_above(self):
        self.check(dominoes((b"abc", b"a")), [0], [4, 98, 99])

    def test_ahead_below(self):
        self.check(dominoes((b"a", b"abc")), [0], [5, 98, 99])

    def test_the_same_above_and_below(self):
        self.check(dominoes((b"abc", b"abc")), [0], [0])

    def test_neither(self):
        self.check(dominoes((b"ab", b"ac")), [0], [-5])

    def test_first_letter_differs(self):
        self.check(dominoes((b"ba", b"aa")), [0], [-5])

    def test_one_letter_ahead(self):
        d = dominoes((b"ab", b"a"), (b"a", b"ab"))
        self.check(d, [0], [2, 98])
        self.check(d, [1], [3, 98])

    def test_neither_though_one_side_is_longer(self):
        self.check(dominoes((b"abcd", b"b")), [0], [-5])
        self.check(dominoes((b"b", b"abcd")), [0], [-5])

    def test_a_later_domino_breaks_the_row(self):
        d = dominoes((b"a", b"ab"), (b"c", b"c"))
        self.check(d, [0], [3, 98])
        self.check(d, [0, 1], [-5])

    def test_same_letters_in_another_order(self):
        self.check(dominoes((b"ab", b"ba")), [0], [-5])

    def test_the_lead_goes_from_side_to_side(self):
        d = dominoes((b"a", b"aab"), (b"abab", b"a"), (b"", b"b"))
        self.check(d, [0], [5, 97, 98])
        self.check(d, [0, 1], [2, 98])
        self.check(d, [0, 1, 2], [0])
        self.check(d, [0, 2], [7, 97, 98, 98])
        self.check(d, [0, 2, 1], [-5])

    def test_what_is_unlike_by_dominoes_may_be_alike_as_a_whole(self):
        d = dominoes((b"a", b""), (b"b", b"a"), (b"", b"b"))
        self.check(d, [0, 1, 2], [0])
        self.check(d, [1], [-5])

    def test_order_and_repeats_count(self):
        d = dominoes((b"a", b""), (b"b", b""))
        self.check(d, [0, 1, 1, 0], [8, 97, 98, 98, 97])
        self.check(d, [1, 0, 0], [6, 98, 97, 97])

    def test_a_row_that_fits(self):
        d = dominoes((b"a", b"baa"), (b"ab", b"aa"), (b"bba", b"bb"))
        self.check(d, [2, 1, 2, 0], [0])
        # bbaabbba above, bbaabb below
        self.check(d, [2, 1, 2], [4, 98, 97])

    def test_every_small_pair_of_dominoes(self):
        words = [bytes(w) for size in range(3) for w in itertools.product((0, 1), repeat=size)]
        rows = [list(r) for size in range(4) for r in itertools.product((0, 1), repeat=size)]
        faces = list(itertools.product(words, repeat=2))
        for pairs in itertools.product(faces, repeat=2):
            d = dominoes(*pairs, padding=1)
            for row in rows:
                if dm_ahead(d, row) != expected_ahead(pairs, row):
                    self.check(d, row, expected_ahead(pairs, row))


class Edges(AheadCase):
    def test_row_of_none(self):
        self.check(dominoes((b"abc", b"x")), [], [0])
        self.check(dominoes(*[(b"abc", b"x")] * 8), [], [0])

    def test_row_of_64(self):
        self.check(dominoes((b"x", b"x")), [0] * 64, [0])
        self.check(dominoes((b"x", b"")), [0] * 64, [128] + [120] * 64)
        self.check(dominoes((b"", b"x")), [0] * 64, [129] + [120] * 64)
        self.check(dominoes((b"x", b"x"), (b"x", b"y")), [0] * 63 + [1], [-5])

    def test_longest_answers(self):
        letters = list(range(1, 9))
        self.check(dominoes((letters, [])), [0] * 64, [1024] + letters * 64)
        self.check(dominoes(([], letters)), [0] * 64, [1025] + letters * 64)
        self.check(dominoes((letters, letters)), [0] * 64, [0])

    def test_eight_dominoes(self):
        d = dominoes(*[([10 + i], []) for i in range(8)])
        self.check(d, [7, 0, 6, 1], [8, 17, 10, 16, 11])
        self.check(d, list(range(8)) * 8, [128] + list(range(10, 18)) * 8)

    def test_words_of_no_letters(self):
        self.check(dominoes((b"", b"")), [0], [0])
        self.check(dominoes((b"", b"")), [0] * 64, [0])
        self.check(dominoes((b"a", b"")), [0], [2, 97])
        self.check(dominoes((b"", b"a")), [0], [3, 97])

    def test_words_of_eight_letters(self):
        eight = b"abcdefgh"
        self.check(dominoes((eight, b"abcdefg")), [0], [2, 104])
        self.check(dominoes((b"abcdefg", eight)), [0], [3, 104])
        self.check(dominoes((eight, b"abcdefgx")), [0], [-5])
        self.check(dominoes((eight, eight)), [0, 0], [0])

    def test_bytes_behind_the_letters_are_no_letters(self):
        for padding in (0, 97, 98, 255):
            self.check(dominoes((b"ab", b"a"), padding=padding), [0], [2, 98])
            self.check(dominoes((b"", b"ab"), padding=padding), [0], [5, 97, 98])
            self.check(dominoes((b"a", b"a"), padding=padding), [0, 0], [0])
        d = [1, 97, 1, 2, 3, 4, 5, 6, 7, 1, 97, 9, 8, 7, 6, 5, 4, 3]
        self.check(d, [0, 0], [0])
        self.check([0] + [255] * 8 + [0] + [7] * 8, [0], [0])

    def test_letters_0_and_255(self):
        self.check(dominoes(([0, 0], [0])), [0], [2, 0])
        self.check(dominoes(([255], [255, 255])), [0], [3, 255])
        self.check(dominoes(([0], [255])), [0], [-5])
        self.check(dominoes(([0, 255, 0], []), padding=9), [0], [6, 0, 255, 0])
        self.check(dominoes(([0] * 8, [255] * 8)), [], [0])

    def test_dominoes_that_are_not_in_the_row_dont_matter(self):
        self.check(dominoes((b"x", b"y"), (b"ab", b"a")), [1], [2, 98])


class Refusals(AheadCase):
    def test_no_dominoes(self):
        self.check([], [], [-2])

    def test_more_dominoes_or_a_longer_row_than_the_ranges_allow(self):
        self.check(dominoes(*[(b"a", b"a")] * 9), [0], [-2])
        self.check(dominoes((b"a", b"a")), [0] * 65, [-2])

    def test_range_before_what_is_not_allowed(self):
        long_word = domino(b"a", b"a")
        long_word[0] = 9
        self.check(long_word * 9, [0], [-2])
        self.check(long_word, [0] * 65, [-2])
        self.check(dominoes((b"a", b"a")), [1] * 65, [-2])

    def test_word_too_long(self):
        for size in (9, 10, 18, 128, 255):
            for place in (0, 9):
                d = domino(b"abcdefgh", b"abcdefgh")
                d[place] = size
                self.check(d, [0], [-3])
                self.check(d, [], [-3])

    def test_word_too_long_in_any_domino_of_eight(self):
        for number in range(8):
            for place in (0, 9):
                d = dominoes(*[(b"ab", b"a")] * 8)
                d[18 * number + place] = 9
                self.check(d, [], [-3])
                self.check(d, [number], [-3])
                self.check(d, [(number + 1) % 8], [-3])

    def test_letters_greater_than_8_are_no_lengths(self):
        self.check(dominoes(([9], [9, 255]), padding=200), [0], [3, 255])

    def test_row_names_a_missing_domino(self):
        for n in range(1, 9):
            d = dominoes(*[(b"ab", b"a")] * n)
            self.check(d, [n - 1], [2, 98])
            for number in (n, n + 1, 255):
                self.check(d, [number], [-3])

    def test_missing_domino_anywhere_in_the_row(self):
        d = dominoes((b"a", b"a"), (b"b", b"b"))
        for place in range(64):
            row = [0, 1] * 32
            row[place] = 2
            self.check(d, row, [-3])

    def test_not_allowed_before_neither(self):
        differing = dominoes((b"a", b"b"), (b"c", b"c"))
        self.check(differing, [0], [-5])
        self.check(differing, [0, 2], [-3])
        self.check(differing, [2, 0], [-3])
        differing[18] = 9
        self.check(differing, [0], [-3])


if __name__ == "__main__":
    unittest.main()
