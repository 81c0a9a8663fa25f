"""Points 1 to 3: each reason for a refusal by itself, their order, and that all is as it was."""

import unittest

from tests.helper import KNOWS, LARGEST, LEFT, NEXT, PROBE, SIZES, SURE, ask, begins, tries

START = begins(3, 1, [1, 1], [[0, 1], [1, 2]])


def first_answer(call):
    """What a call answers as the first one of a line."""
    return ask(call)[0]


class Point1Size(unittest.TestCase):
    def test_depths(self):
        self.assertEqual(first_answer(begins(0, 0, [0], [[0]])), [-1])
        self.assertEqual(first_answer(begins(1, 0, [0], [[0]])), [1])
        self.assertEqual(first_answer(begins(9, 0, [0], [[0]])), [9])
        self.assertEqual(first_answer(begins(10, 0, [0], [[0]])), [-1])
        self.assertEqual(first_answer(begins(LARGEST, 0, [0], [[0]])), [-1])

    def test_no_depth_at_any_number_of_places(self):
        for places in range(21):
            self.assertEqual(first_answer(begins(0, 0, [0] * places, [[0]] * places)), [-1])

    def test_places(self):
        for depths in (1, 2):
            self.assertEqual(first_answer(begins(depths, 1, [], [])), [-1])
            self.assertEqual(first_answer(begins(depths, 1, [0], [[0]])), [depths])
            self.assertEqual(first_answer(begins(depths, 1, [0] * 5, [[0]] * 5)), [depths ** 5])
            self.assertEqual(first_answer(begins(depths, 1, [0] * 6, [[0]] * 6)), [-1])
            self.assertEqual(first_answer(begins(depths, 1, [0] * 20, [[0]] * 20)), [-1])

    def test_places_times_the_depths_less_one(self):
        self.assertEqual(first_answer(begins(9, 8, [0], [[0]])), [9])
        self.assertEqual(first_answer(begins(5, 8, [0] * 2, [[0]] * 2)), [25])
        self.assertEqual(first_answer(begins(3, 8, [0] * 4, [[0]] * 4)), [81])
        self.assertEqual(first_answer(begins(4, 8, [0] * 3, [[0]] * 3)), [-1])
        self.assertEqual(first_answer(begins(10, 8, [0], [[0]])), [-1])
        self.assertEqual(first_answer(begins(6, 8, [0] * 2, [[0]] * 2)), [-1])

    def test_all_sizes(self):
        for depths in range(12):
            for places in range(8):
                given = first_answer(begins(depths, LARGEST, [0] * places, [[0]] * places))
                self.assertEqual(given, [depths ** places] if (depths, places) in SIZES else [-1])


class Point1KeyAndLock(unittest.TestCase):
    def assert_second(self, *told):
        self.assertEqual(first_answer(begins(*told)), [-2])

    def test_a_cut_that_is_no_depth(self):
        self.assert_second(3, 9, [3, 0], [[0, 1, 2], [0]])
        self.assert_second(3, 9, [0, 3], [[0], [0, 3]])
        self.assert_second(3, LARGEST, [0, LARGEST], [[0], [LARGEST]])
        self.assertEqual(first_answer(begins(3, 9, [2, 0], [[0, 1, 2], [0]])), [9])

    def test_own_key_cannot_be_cut(self):
        self.assert_second(3, 1, [0, 2], [[0], [2]])
        self.assert_second(3, 1, [2, 0], [[2], [0]])
        self.assert_second(2, 0, [0, 0, 1], [[0], [0], [1]])
        self.assertEqual(first_answer(begins(3, 2, [0, 2], [[0], [2]])), [9])
        self.assertEqual(first_answer(begins(2, 0, [1, 1, 1], [[1], [1], [1]])), [2])

    def test_neighbours_alone_are_held_together(self):
        self.assertEqual(first_answer(begins(3, 1, [0, 1, 2], [[0], [1], [2]])), [17])

    def test_the_lock_has_other_places(self):
        self.assert_second(2, 1, [0, 0], [[0]])
        self.assert_second(2, 1, [0, 0], [[0], [0], [0]])
        self.assert_second(2, 1, [0, 0], [])
        self.assert_second(2, 1, [0, 0], [[0]] * 20)

    def test_depths_that_do_not_rise(self):
        self.assert_second(3, 2, [0, 0], [[0, 0], [0]])
        self.assert_second(3, 2, [0, 0], [[0], [1, 0]])
        self.assert_second(3, 2, [0, 0], [[0, 2, 1], [0]])
        self.assert_second(3, 2, [0, 0], [[0, 1, 1], [0]])
        self.assert_second(3, 2, [0, 0], [[0] * 20, [0]])
        self.assertEqual(first_answer(begins(3, 2, [0, 0], [[0, 1, 2], [0, 2]])), [9])

    def test_a_taken_depth_that_is_none(self):
        self.assert_second(3, 2, [0, 0], [[0, 3], [0]])
        self.assert_second(3, 2, [0, 0], [[0], [0, LARGEST]])
        self.assert_second(3, 2, [0, 0], [list(range(20)), [0]])
        self.assertEqual(first_answer(begins(3, 2, [0, 0], [[0, 2], [0]])), [9])

    def test_a_place_without_depths(self):
        self.assert_second(3, 2, [0, 0], [[], [0]])
        self.assert_second(3, 2, [0, 0], [[0], []])

    def test_own_key_does_not_open(self):
        self.assert_second(3, 2, [0, 0], [[1, 2], [0]])
        self.assert_second(3, 2, [0, 0], [[0], [1]])
        self.assert_second(1, 0, [0], [[]])

    def test_cuts_of_another_place_do_not_help(self):
        self.assert_second(3, 2, [0, 1], [[1], [0]])


class Point1Order(unittest.TestCase):
    def test_first_reason_wins(self):
        faulty = [
            begins(0, 0, [5], [[0]]),
            begins(10, 0, [10], [[0]]),
            begins(0, 0, [LARGEST, 0], []),
            begins(2, 0, [], [[0]]),
            begins(2, 0, [0, 1, 0, 1, 0, 1], [[0]]),
            begins(4, 0, [0, 3, 9], [[1, 0], [], [LARGEST]]),
            begins(LARGEST, LARGEST, [LARGEST] * 20, [[LARGEST] * 20] * 20),
        ]
        for call in faulty:
            self.assertEqual(first_answer(call), [-1])


class Point2(unittest.TestCase):
    def test_other_places(self):
        given = ask(START, tries([]), tries([1]), tries([1, 1, 1]), tries([1] * 20), tries([1, 1]))
        self.assertEqual(given[1:], [[-2], [-2], [-2], [-2], [1, 1, 16]])

    def test_a_cut_that_is_no_depth(self):
        given = ask(START, tries([3, 2]), tries([2, 3]), tries([2, 2]))
        self.assertEqual(given[1:], [[-2], [-2], [0, 1, 12]])
        free = begins(3, LARGEST, [1, 1], [[1], [1]])
        self.assertEqual(ask(free, tries([0, LARGEST]), tries([3, 0]))[1:], [[-2], [-2]])

    def test_cannot_be_cut(self):
        self.assertEqual(ask(START, tries([0, 2]), tries([2, 0]), tries([1, 2]))[1:], [[-2], [-2], [1, 1, 8]])

    def test_thirty_first_key(self):
        thirty = [tries([0, 1]), tries([1, 0])] * 15
        given = ask(START, *thirty, tries([2, 1]), KNOWS, tries([1, 1]), LEFT)
        self.assertEqual(given[30:], [[0, 1, 4], [-5], [30, 2, 0, 1, 0, 1, 1, 1, 0], [-5], [4]])

    def test_thirty_other_keys(self):
        start = begins(3, 2, [0] * 4, [[0, 1]] * 4)
        keys = [[0, a, b, c] for a in range(3) for b in range(3) for c in range(3)]
        keys += [[1, 0, 0, a] for a in range(3)]
        given = ask(start, *[tries(key) for key in keys], tries([2, 2, 2, 2]), SURE)
        self.assertEqual(given[31], [-5])
        self.assertNotEqual(given[30], [-5])
        self.assertEqual(given[32], [16, 4, 0, 0, 0, 1])

    def test_wrong_key_when_thirty_were_tried(self):
        thirty = [tries([1, 1])] * 30
        given = ask(START, *thirty, tries([1]), tries([3, 1]), tries([0, 2]), tries([1, 1]))
        self.assertEqual(given[31:], [[-2], [-2], [-2], [-5]])

    def test_refused_keys_do_not_count(self):
        wrong = [tries([0, 2])] * 10
        given = ask(START, *wrong, *[tries([1, 1])] * 30, KNOWS, tries([1, 1]))
        self.assertEqual(given[40:], [[1, 1, 16], [30, 1, 1, 0, 1, 1, 0], [-5]])


class Point3(unittest.TestCase):
    def test_one_lock_alone(self):
        two = begins(2, 0, [0], [[0]])
        self.assertEqual(ask(NEXT, two, NEXT, tries([1]), NEXT), [[-6], [2], [1, 1, 1], [0, 1, 1], [-6]])

    def test_two_locks(self):
        start = begins(2, 1, [1, 1], [[0, 1], [1]])
        given = ask(start, tries([0, 1]), NEXT, tries([0, 0]), NEXT)
        self.assertEqual(given[1:], [[1, 1, 2], [1, 2, 0, 0], [0, 1, 1], [-6]])

    def test_two_locks_that_no_key_tells_apart(self):
        # Cut 2 at the first place goes with 1 and 2 alone at the second, and neither is taken there.
        start = begins(3, 1, [0, 0], [[0, 1], [0]])
        given = ask(start, tries([1, 0]), tries([1, 1]), tries([1, 2]), NEXT, tries([2, 1]), tries([2, 2]), NEXT)
        self.assertEqual(given[3:], [[0, 1, 2], [2, 2, 0, 0], [0, 1, 2], [0, 1, 2], [2, 2, 0, 0]])


class AllIsAsItWas(unittest.TestCase):
    def assert_kept(self, ahead, refused, number):
        given = ask(*ahead, *PROBE, refused, *PROBE)
        at = len(ahead)
        self.assertEqual(given[at + 5], [number])
        self.assertEqual(given[at:at + 5], given[at + 6:])

    def test_begins(self):
        faulty = [
            (begins(0, 0, [0], [[0]]), -1),
            (begins(10, 0, [0], [[0]]), -1),
            (begins(2, 0, [], []), -1),
            (begins(1, 0, [0] * 6, [[0]] * 6), -1),
            (begins(4, 0, [0] * 3, [[0]] * 3), -1),
            (begins(2, 0, [2], [[0, 1]]), -2),
            (begins(2, 0, [0, 1], [[0], [1]]), -2),
            (begins(2, 0, [0], [[0], [0]]), -2),
            (begins(2, 0, [0], [[0, 0]]), -2),
            (begins(2, 0, [0], [[0, 2]]), -2),
            (begins(2, 0, [0], [[1]]), -2),
        ]
        for call, number in faulty:
            self.assert_kept([], call, number)
            self.assert_kept([START], call, number)
            self.assert_kept([START, tries([0, 1]), tries([2, 2])], call, number)

    def test_try(self):
        for key in ([], [1], [1, 1, 1], [3, 2], [0, 2]):
            self.assert_kept([START, tries([0, 1])], tries(key), -2)
        for key in ([1], [1, 0, 0]):
            self.assert_kept([], tries(key), -2)
        self.assert_kept([START] + [tries([0, 1])] * 30, tries([2, 1]), -5)
        self.assert_kept([START] + [tries([0, 1])] * 30, tries([2, 0]), -2)

    def test_next(self):
        self.assert_kept([], NEXT, -6)
        self.assert_kept([begins(2, 0, [1], [[0, 1]]), tries([0])], NEXT, -6)


if __name__ == "__main__":
    unittest.main()
