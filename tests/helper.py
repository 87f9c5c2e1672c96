"""What the tests share: dominoes as bytes, and calls that are watched."""

import contextlib
import io
import time

# Far above what the dearest calls take, so that only a search gone wild comes near it.
SECONDS_IN_GOOD_TIME = 30


class WatchedList(list):
    """A list that fails when it is changed, even if the change would be undone."""

    def refuse(self, *args, **kwargs):
        raise AssertionError("what was handed in was changed")

    __setitem__ = __delitem__ = __iadd__ = __imul__ = refuse
    append = clear = extend = insert = pop = remove = reverse = sort = refuse


def word(letters, padding=0):
    """The nine bytes of a word; padding fills the places behind its letters."""
    return [len(letters)] + list(letters) + [padding] * (8 - len(letters))


def domino(above, below, padding=0):
    return word(above, padding) + word(below, padding)


def dominoes(*pairs, padding=0):
    """The bytes of dominoes that are told as pairs of words (bytes or lists of numbers)."""
    d = []
    for above, below in pairs:
        d.extend(domino(above, below, padding))
    return d


def call(test, function, arguments):
    """One call: its answer, once it is sure that it is a plain list and nothing was printed."""
    printed = io.StringIO()
    with contextlib.redirect_stdout(printed), contextlib.redirect_stderr(printed):
        answer = function(*arguments)
    test.assertEqual(printed.getvalue(), "")
    test.assertIs(type(answer), list)
    for number in answer:
        test.assertIs(type(number), int)
    return answer


def ask(test, function, *arguments):
    """The answer of a call, with all that holds for each call checked beside it."""
    before = [list(a) if isinstance(a, list) else a for a in arguments]
    watched = [WatchedList(a) if isinstance(a, list) else a for a in arguments]
    first = call(test, function, watched)
    test.assertEqual(watched, before)
    answer = list(first)
    # An answer belongs to its caller: what the caller does to it must not reach a later call.
    first.append(12345)
    second = call(test, function, arguments)
    test.assertEqual(second, answer)
    test.assertEqual(list(arguments), before)
    return answer


def ask_in_time(test, function, *arguments):
    """The answer of a call whose input is among the dearest, once it is sure that it comes in good time."""
    started = time.perf_counter()
    answer = ask(test, function, *arguments)
    test.assertLess(time.perf_counter() - started, SECONDS_IN_GOOD_TIME)
    return answer
