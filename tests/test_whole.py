"""What is promised over the whole program: the four calls beside one another."""

import copy
import itertools
import subprocess
import sys
import unittest

import spellsame.dominoes
from spellsame.dominoes import dm_ahead, dm_count, dm_least, dm_ones
from tests.helper import ask, dominoes

AB = dominoes((b"ab", b"a"), (b"", b"b"))

# Each with its answer, as the document asks for it.
CALLS = (
    (dm_ahead, (AB, [0]), [2, 98]),
    (dm_ahead, (AB, [1, 0]), [-5]),
    (dm_ahead, ([], []), [-2]),
    (dm_least, (16, AB), [2, 0, 1]),
    (dm_least, (1, AB), [-5]),
    (dm_least, (17, []), [-2]),
    (dm_least, (16, [9] + [0] * 17), [-3]),
    (dm_count, (16, AB), [1]),
    (dm_count, (4, dominoes((b"a", b""), (b"", b"a"))), [4]),
    (dm_count, (1, AB), [0]),
    (dm_count, (0, []), [-2]),
    (dm_ones, ([3, 0], [0, 2]), [5]),
    (dm_ones, ([3, 1], [0, 0]), [-5]),
    (dm_ones, ([3], [1001]), [-3]),
    (dm_ones, ([], []), [-2]),
)


def module_values():
    """What the module holds beside its functions and classes."""
    return {name: copy.deepcopy(value) for name, value in vars(spellsame.dominoes).items()
            if not name.startswith("__") and not callable(value)}


class BesideOneAnother(unittest.TestCase):
    def test_each_by_itself(self):
        for function, arguments, answer in CALLS:
            self.assertEqual(ask(self, function, *copy.deepcopy(arguments)), answer)

    def test_in_any_order_and_again(self):
        for order in itertools.permutations(CALLS, 3):
            for function, arguments, answer in order:
                self.assertEqual(function(*arguments), answer)

    def test_the_same_lists_handed_to_several(self):
        before = list(AB)
        for turn in range(3):
            self.assertEqual(dm_least(16, AB), [2, 0, 1])
            self.assertEqual(dm_count(16, AB), [1])
            self.assertEqual(dm_ahead(AB, [0, 1]), [0])
            self.assertEqual(dm_ones(AB[:18], AB[18:]), [1])
        self.assertEqual(AB, before)

    def test_one_list_as_both_arguments(self):
        numbers = [0, 5, 1000]
        self.assertEqual(ask(self, dm_ones, numbers, numbers), [1])
        no_letters = [0] * 18
        self.assertEqual(ask(self, dm_ahead, no_letters, no_letters), [0])

    def test_each_answer_is_a_new_list(self):
        for function, arguments, answer in CALLS:
            first = function(*arguments)
            second = function(*arguments)
            self.assertIsNot(first, second)
            for handed_in in arguments:
                self.assertIsNot(first, handed_in)

    def test_nothing_is_kept(self):
        before = module_values()
        for function, arguments, answer in CALLS:
            function(*arguments)
            self.assertEqual(module_values(), before)

    def test_the_least_row_evens_out(self):
        for words in itertools.product((b"", b"a", b"ab", b"ba"), repeat=4):
            d = dominoes(words[:2], words[2:])
            answer = dm_least(16, d)
            if answer != [-5]:
                self.assertEqual(len(answer), answer[0] + 1)
                self.assertEqual(dm_ahead(d, answer[1:]), [0])
                self.assertGreater(dm_count(answer[0], d)[0], 0)
            self.assertEqual(dm_count(answer[0] - 1, d) if answer[0] > 1 else [0], [0])


class Plain(unittest.TestCase):
    def test_calls_within_one_another_stay_few(self):
        limit = sys.getrecursionlimit()
        depth = len([1 for frame in frames()])
        deep = [(dm_ones, ([1000, 0], [0, 999]), [1999]),
                (dm_ahead, (dominoes((b"abcdefgh", b"")), [0] * 64), [1024] + list(b"abcdefgh") * 64),
                (dm_least, (16, dominoes((b"a" * 8, b""), (b"", b"a" * 7))), [15] + [0] * 7 + [1] * 8),
                (dm_count, (16, dominoes((b"a" * 8, b""), (b"", b"a" * 7))), [6435])]
        try:
            sys.setrecursionlimit(depth + 30)
            answers = [function(*arguments) for function, arguments, answer in deep]
        finally:
            sys.setrecursionlimit(limit)
        self.assertEqual(answers, [answer for function, arguments, answer in deep])

    def test_it_imports_prints_and_reads_nothing(self):
        program = (
            "import sys\n"
            "before = set(sys.modules)\n"
            "from spellsame.dominoes import dm_ahead, dm_least, dm_count, dm_ones\n"
            "dm_ahead([0] * 18, [0]), dm_least(16, [0] * 18), dm_count(16, [0] * 18), dm_ones([1], [1])\n"
            "sys.exit(set(sys.modules) - before != {'spellsame', 'spellsame.dominoes'})\n")
        done = subprocess.run([sys.executable, "-B", "-c", program], stdin=subprocess.DEVNULL, capture_output=True)
        self.assertEqual((done.returncode, done.stdout, done.stderr), (0, b"", b""))


def frames():
    frame = sys._getframe()
    while frame is not None:
        yield frame
        frame = frame.f_back


if __name__ == "__main__":
    unittest.main()
