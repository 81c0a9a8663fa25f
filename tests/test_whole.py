"""What holds over the whole program: time, nothing changed, nothing kept, nothing printed."""

import contextlib
import io
import time
import unittest

from keylock.keys import answers
from tests.helper import CHANGES, KNOWS, LARGEST, LEFT, NEXT, PROBE, SURE, ask, begins, line, plain_answers, tries

SECONDS = 5
LARGEST_SIZES = ((9, 1), (5, 2), (3, 3), (3, 4), (2, 5))


def largest_line(depths, places):
    """50 calls with 10 of next, most of them while many locks may still be it."""
    calls = [begins(depths, LARGEST, [0] * places, [[0, depths - 1]] * places)]
    calls += [NEXT] * 8 + [SURE] * 10 + [KNOWS] * 10 + [CHANGES] * 5
    for cut in range(1, depths):
        calls += [tries([cut] * places), LEFT]
    calls += [NEXT, tries([0] * places), NEXT]
    return calls[:50] + [SURE] * (50 - len(calls))


class Time(unittest.TestCase):
    def test_largest_sizes(self):
        for depths, places in LARGEST_SIZES:
            calls = largest_line(depths, places)
            self.assertEqual(len(calls), 50)
            self.assertLessEqual(calls.count(NEXT), 10)
            numbers = line(calls)
            began = time.perf_counter()
            given = answers(numbers)
            self.assertLess(time.perf_counter() - began, SECONDS)
            self.assertEqual(given[:2], [1, depths ** places])

    def test_ten_of_next_while_all_locks_may_be_it(self):
        calls = [begins(3, 2, [0] * 4, [[0]] * 4)] + [NEXT] * 10 + [SURE] * 39
        given = ask(*calls)
        self.assertEqual(given[1:11], [[128, 4, 0, 0, 0, 1]] * 10)
        self.assertEqual(given[11:], [[1, 0]] * 39)

    def test_fifty_begins(self):
        calls = [begins(3, 2, [0] * 4, [[0]] * 4)] * 50
        began = time.perf_counter()
        self.assertEqual(ask(*calls), [[81]] * 50)
        self.assertLess(time.perf_counter() - began, SECONDS)

    def test_longest_calls(self):
        longest = begins(LARGEST, LARGEST, [LARGEST] * 20, [[LARGEST] * 20] * 20)
        self.assertEqual(ask(*[longest] * 50), [[-1]] * 50)
        wide = begins(1, LARGEST, [0], [[LARGEST] * 20] * 20)
        self.assertEqual(ask(*[wide] * 50), [[-2]] * 50)

    def test_largest_line_is_right(self):
        calls = largest_line(5, 2)
        self.assertEqual(ask(*calls), plain_answers(calls))


class Watched(list):
    """A list that tells when something would be written to it."""

    def refuse(self, *told):
        raise AssertionError("what was handed in is changed")

    append = extend = insert = pop = remove = clear = reverse = sort = refuse
    __setitem__ = __delitem__ = __iadd__ = __imul__ = refuse


class NothingChanged(unittest.TestCase):
    CALLS = [
        begins(3, 1, [1, 1], [[0, 1], [1, 2]]), tries([0, 1]), tries([2, 0]), tries([2, 2]), *PROBE,
        begins(0, 0, [], []), begins(2, 0, [1, 1], [[0, 1], [0, 1]]), *PROBE, tries([0, 0]), *PROBE,
    ]

    def test_list_is_the_same_afterwards(self):
        numbers = line(self.CALLS)
        answers(numbers)
        self.assertEqual(numbers, line(self.CALLS))

    def test_list_is_not_written_to_for_a_while_either(self):
        numbers = Watched(line(self.CALLS))
        self.assertEqual(answers(numbers), answers(line(self.CALLS)))

    def test_answer_is_a_list_of_its_own(self):
        numbers = line(self.CALLS)
        first = answers(numbers)
        kept = list(first)
        first.clear()
        self.assertEqual(answers(numbers), kept)

    def test_two_times_alike(self):
        numbers = line(self.CALLS)
        self.assertEqual(answers(numbers), answers(numbers))

    def test_nothing_is_kept_for_the_next_time(self):
        fresh = answers(line(PROBE))
        answers(line(self.CALLS))
        self.assertEqual(answers(line(PROBE)), fresh)
        self.assertEqual(fresh, [4, 0, 1, 0, 0, 1, 1, 1, -6, 2, 1, 0, 3, 0, 1, 0])

    def test_nothing_is_printed(self):
        out, err = io.StringIO(), io.StringIO()
        with contextlib.redirect_stdout(out), contextlib.redirect_stderr(err):
            answers(line(self.CALLS))
        self.assertEqual((out.getvalue(), err.getvalue()), ("", ""))


if __name__ == "__main__":
    unittest.main()
