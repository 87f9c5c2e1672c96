"""Point 4 of the promises: dm_ones."""

import itertools
import math
import random
import unittest

from spellsame.dominoes import dm_least, dm_ones
from tests.helper import ask, ask_in_time, dominoes

# With differences of 6 at most, one longer above and one longer below come out even by 6 + 6 of them.
SURELY_ENOUGH = 12


def expected_by_multiplicities(differences):
    """Point 4 by going through how often each of the dominoes may be there, up to a length that is surely enough."""
    for size in range(1, SURELY_ENOUGH + 1):
        for row in itertools.combinations_with_replacement(differences, size):
            if sum(row) == 0:
                return [size]
    return [-5]


def expected_by_totals(a, b):
    """Point 4 by all totals that come up, in whatever order, far beyond where they need to go."""
    differences = {above - below for above, below in zip(a, b)}
    limit = 5 * max(abs(difference) for difference in differences) + 5
    seen = set()
    last = {0}
    for size in itertools.count(1):
        last = {total + difference for total in last for difference in differences}
        if 0 in last:
            return [size]
        last = {total for total in last if abs(total) <= limit and total not in seen}
        seen |= last
        if not last:
            return [-5]


def sides(differences):
    """Dominoes with these differences and letters on one side alone."""
    return [max(i, 0) for i in differences], [max(-i, 0) for i in differences]


class OnesCase(unittest.TestCase):
    def check(self, a, b, answer):
        self.assertEqual(ask(self, dm_ones, a, b), answer)

    def check_in_time(self, a, b, answer):
        self.assertEqual(ask_in_time(self, dm_ones, a, b), answer)


class Ordinary(OnesCase):
    def test_as_many_above_as_below(self):
        self.check([3], [3], [1])
        self.check([5, 2, 7], [1, 2, 9], [1])
        self.check([9, 9, 4], [1, 2, 4], [1])

    def test_one_longer_on_each_side(self):
        self.check([3, 0], [0, 2], [5])
        self.check([0, 3], [2, 0], [5])
        self.check([1, 0], [0, 1], [2])
        self.check([7, 1], [0, 8], [2])

    def test_with_a_common_divisor(self):
        self.check([6, 0], [0, 4], [5])
        self.check([600, 0], [0, 400], [5])
        self.check([10, 0], [0, 5], [3])
        self.check([1000, 0], [0, 998], [999])

    def test_without_a_common_divisor(self):
        self.check([7, 0], [0, 5], [12])
        self.check([101, 0], [0, 100], [201])

    def test_only_the_difference_counts(self):
        self.check([13, 4], [10, 6], [5])
        self.check([1000, 998], [997, 1000], [5])

    def test_three_or_more_different_ones(self):
        # 5 and 4 above, 9 below
        self.check(*sides([5, 4, -9]), [3])
        # 100, 10 and 1 above, 111 below
        self.check(*sides([100, 10, 1, -111]), [4])
        self.check(*sides([500, 50, 5, -400, -155]), [5])

    def test_more_different_ones_are_fewer_in_all(self):
        self.check(*sides([7, -5]), [12])
        self.check(*sides([7, -5, -2]), [3])
        self.check(*sides([7, -5, 3]), [4])
        # Five of 11 above, one of 10 and five of 9 below; 11 and 9 alone would need 20.
        self.check(*sides([11, -9]), [20])
        self.check(*sides([11, -10, -9]), [11])
        # 3000 above, 1998 and 1002 below
        self.check(*sides([1000, -999, -501]), [7])
        self.check(*sides([1000, -999, -1]), [3])

    def test_all_longer_on_the_same_side(self):
        self.check([5], [2], [-5])
        self.check([2], [5], [-5])
        self.check([5, 6, 7], [1, 2, 3], [-5])
        self.check([1, 2, 3], [5, 6, 7], [-5])
        self.check([1, 1, 1], [0, 0, 0], [-5])

    def test_alike(self):
        self.check([3, 3, 0, 0], [0, 0, 2, 2], [5])
        self.check([3] * 32, [0] * 32, [-5])

    def test_order_does_not_matter(self):
        differences = [7, -5, 3, -12]
        for order in itertools.permutations(differences):
            self.check(*sides(order), expected_by_totals(*sides(differences)))

    def test_above_and_below_changed_about(self):
        for differences in ([7, -5, 3], [11, -10, -9], [4, 6], [9, -6, 15]):
            a, b = sides(differences)
            self.assertEqual(ask(self, dm_ones, a, b), ask(self, dm_ones, b, a))


class Edges(OnesCase):
    def test_one_domino(self):
        self.check([0], [0], [1])
        self.check([1000], [1000], [1])
        self.check([1], [0], [-5])
        self.check([0], [1], [-5])

    def test_64_dominoes(self):
        self.check([1] * 64, [0] * 64, [-5])
        self.check([0] * 64, [1] * 64, [-5])
        self.check([1] * 64, [0] * 63 + [1], [1])
        self.check([1] + [0] * 63, [1] * 64, [1])
        self.check([5] * 63 + [0], [0] * 63 + [3], [8])
        self.check([0] + [5] * 63, [3] + [0] * 63, [8])
        self.check(list(range(1, 64)) + [0], [0] * 63 + [126], [3])

    def test_no_letters_above_and_below(self):
        self.check([0], [0], [1])
        self.check([5, 0], [3, 0], [1])
        self.check([0, 1000, 0], [999, 0, 0], [1])

    def test_1000(self):
        self.check([1000], [1000], [1])
        self.check([1000], [0], [-5])
        self.check([0], [1000], [-5])
        self.check([1000, 0], [0, 1000], [2])
        self.check([1000, 0], [0, 1], [1001])
        self.check([1, 0], [0, 1000], [1001])

    def test_the_most_dominoes(self):
        self.check([1000, 0], [0, 999], [1999])
        self.check([0, 1000], [999, 0], [1999])
        self.check([999, 0], [0, 1000], [1999])
        self.check([0, 999], [1000, 0], [1999])


class InTime(OnesCase):
    def test_slow_sets_of_few(self):
        for large in range(990, 1001):
            for small in range(980, large):
                divisor = math.gcd(large, small)
                self.check_in_time([large, 0], [0, small], [(large + small) // divisor])
        # Nothing else than the two of them helps.
        self.check_in_time(*sides([1000, -999, 1000, -999]), [1999])
        self.check_in_time(*sides([1000, 998, 996, -999, -997]), [4])

    def test_64_with_large_differences(self):
        self.check_in_time([1000] + [0] * 63, [0] + list(range(937, 1000)), [31])
        self.check_in_time(list(range(937, 1000)) + [0], [0] * 63 + [1000], [31])
        self.check_in_time(*sides([1000 - 2 * i for i in range(32)] + [2 * i - 999 for i in range(32)]), [4])
        self.check_in_time([1000] * 32 + [0] * 32, [0] * 32 + [999] * 32, [1999])
        self.check_in_time(list(range(937, 1001)), [0] * 64, [-5])

    def test_many_sets_of_64(self):
        rng = random.Random(40)
        for number in range(100):
            a = [rng.randint(0, 1000) for place in range(64)]
            b = [rng.randint(0, 1000) for place in range(64)]
            self.check_in_time(a, b, expected_by_totals(a, b))


class Refusals(OnesCase):
    def test_no_dominoes(self):
        self.check([], [], [-2])

    def test_more_than_64(self):
        self.check([1] * 65, [1] * 65, [-2])

    def test_range_before_what_is_not_allowed(self):
        self.check([1001] * 65, [1] * 65, [-2])

    def test_1001_and_more(self):
        for number in (1001, 1002, 2000, 32767, 32768, 65534, 65535):
            self.check([number], [0], [-3])
            self.check([0], [number], [-3])
            self.check([number], [number], [-3])

    def test_at_any_place(self):
        for size in (1, 2, 3, 63, 64):
            for place in range(size):
                spoiled = [5] * size
                spoiled[place] = 1001
                self.check(spoiled, [5] * size, [-3])
                self.check([5] * size, spoiled, [-3])
                spoiled[place] = 65535
                self.check(spoiled, [6] * size, [-3])
                self.check([6] * size, spoiled, [-3])

    def test_not_allowed_before_no_row(self):
        self.check([5, 6], [1, 2], [-5])
        self.check([5, 1001], [1, 2], [-3])
        self.check([1001, 1001], [1, 1000], [-3])
        self.check([1, 2], [5, 1001], [-3])


class AgainstAllRows(OnesCase):
    def test_every_small_set(self):
        known = {}
        faces = list(itertools.product(range(7), repeat=2))
        for n in (1, 2, 3):
            for chosen in itertools.product(faces, repeat=n):
                a = [face[0] for face in chosen]
                b = [face[1] for face in chosen]
                differences = tuple(sorted({above - below for above, below in chosen}))
                if differences not in known:
                    known[differences] = expected_by_multiplicities(differences)
                if dm_ones(a, b) != known[differences]:
                    self.check(a, b, known[differences])

    def test_many_larger_sets(self):
        rng = random.Random(41)
        for number in range(3000):
            most = rng.choice((3, 10, 40, 200, 1000))
            n = rng.randint(1, 6)
            a = [rng.randint(0, most) for place in range(n)]
            b = [rng.randint(0, most) for place in range(n)]
            expected = expected_by_totals(a, b)
            if dm_ones(a, b) != expected:
                self.check(a, b, expected)

    def test_as_dm_least_says_of_one_letter(self):
        rng = random.Random(42)
        for number in range(300):
            n = rng.randint(1, 4)
            a = [rng.randint(0, 8) for place in range(n)]
            b = [rng.randint(0, 8) for place in range(n)]
            d = dominoes(*[(b"x" * above, b"x" * below) for above, below in zip(a, b)])
            # 8 + 7 are the most that may be needed, so 16 are enough.
            self.assertEqual(dm_ones(a, b), dm_least(16, d)[:1])


if __name__ == "__main__":
    unittest.main()
