"""The seven calls: ordinary inputs, a line's beginning, and a second begins."""

import unittest

from keylock.keys import answers
from tests.helper import CHANGES, KNOWS, LEFT, NEXT, PROBE, SURE, ask, begins, tries

SMALL = begins(3, 1, [1, 1], [[0, 1], [1, 2]])


class NumberByNumber(unittest.TestCase):
    """Lines written out as they are handed in and given back."""

    def test_all_seven_calls(self):
        calls = [
            0, 13, 0, 3, 1, 2, 1, 1, 2, 2, 0, 1, 2, 1, 2,
            0, 4, 1, 2, 0, 1,
            0, 4, 1, 2, 1, 0,
            0, 1, 2,
            0, 1, 3,
            0, 1, 4,
            0, 1, 5,
            0, 1, 6,
        ]
        self.assertEqual(answers(calls), [
            1, 7,
            3, 1, 1, 8,
            3, 0, 1, 4,
            9, 2, 2, 0, 1, 0, 1, 1, 1, 0,
            1, 4,
            4, 2, 2, 1, 2,
            4, 2, 2, 0, 1,
            15, 4, 1, 4, 2, 0, 1, 2, 2, 1, 2, 1, 0, 2, 1, 2,
        ])

    def test_example_of_the_readme(self):
        calls = [0, 13, 0, 3, 1, 2, 1, 1, 2, 2, 0, 1, 2, 1, 2, 0, 4, 1, 2, 0, 1, 0, 1, 3, 0, 1, 4]
        self.assertEqual(answers(calls), [1, 7, 3, 1, 1, 8, 1, 8, 4, 4, 2, 0, 0])

    def test_line_beginning(self):
        calls = [0, 1, 2, 0, 1, 3, 0, 1, 4, 0, 1, 5, 0, 1, 6, 0, 3, 1, 1, 0, 0, 1, 2]
        self.assertEqual(answers(calls), [
            4, 0, 1, 0, 0,
            1, 1,
            1, -6,
            2, 1, 0,
            3, 0, 1, 0,
            3, 1, 1, 1,
            4, 1, 1, 0, 0,
        ])

    def test_refusals_stand_alone(self):
        self.assertEqual(answers([0, 5, 0, 0, 0, 0, 0]), [1, -1])
        self.assertEqual(answers([0, 6, 0, 1, 0, 1, 0, 0]), [1, -2])
        self.assertEqual(answers([0, 2, 1, 0]), [1, -2])
        self.assertEqual(answers([0, 1, 4]), [1, -6])

    def test_kinds(self):
        given = answers([0, 3, 1, 1, 0, 0, 1, 5])
        self.assertIs(type(given), list)
        self.assertEqual({type(number) for number in given}, {int})


class LineBeginning(unittest.TestCase):
    def test_keys_have_one_place_and_one_depth(self):
        self.assertEqual(ask(tries([1]), tries([]), tries([0, 0]), tries([0])), [[-2], [-2], [-2], [1, 1, 1]])

    def test_like_a_begins_of_that_kind(self):
        same = begins(1, 0, [0], [[0]])
        self.assertEqual(ask(*PROBE, tries([0]), *PROBE), ask(same, *PROBE, tries([0]), *PROBE)[1:])


class Begins(unittest.TestCase):
    def test_how_many_keys_can_be_cut(self):
        for reach, keys in ((0, 3), (1, 7), (2, 9), (3, 9), (4294967295, 9)):
            self.assertEqual(ask(begins(3, reach, [0, 0], [[0], [0]])), [[keys]])

    def test_one_place_has_no_neighbours(self):
        self.assertEqual(ask(begins(9, 0, [8], [[8]])), [[9]])

    def test_second_begins_forgets_what_was_tried(self):
        given = ask(SMALL, tries([0, 1]), tries([1, 0]), SMALL, *PROBE)
        self.assertEqual(given[3:], ask(SMALL, *PROBE))
        self.assertEqual(given[4], [0, 1, 1, 0, 1, 1, 0])
        self.assertEqual(given[5], [16])

    def test_second_begins_has_another_lock(self):
        given = ask(SMALL, tries([0, 1]), begins(2, 1, [1], [[0, 1]]), LEFT, tries([0]), KNOWS, CHANGES)
        self.assertEqual(given[2:], [[2], [2], [1, 1, 1], [1, 2, 0, 1, 0], [1, 1, 1, 1, 0]])

    def test_second_begins_counts_tried_keys_anew(self):
        twenty = [tries([1, 1])] * 20
        given = ask(SMALL, *twenty, SMALL, *twenty, KNOWS)
        self.assertEqual(given[-2:], [[1, 1, 16], [20, 1, 1, 0, 1, 1, 0]])


class Try(unittest.TestCase):
    def test_opens_or_not_and_how_many_are_left(self):
        self.assertEqual(ask(SMALL, tries([0, 1]), tries([2, 2])), [[7], [1, 1, 8], [0, 1, 6]])

    def test_own_key_tells_nothing(self):
        self.assertEqual(ask(SMALL, tries([1, 1]), KNOWS), [[7], [1, 1, 16], [1, 1, 1, 0, 1, 1, 0]])

    def test_the_same_key_again_counts_but_tells_nothing(self):
        given = ask(SMALL, tries([1, 0]), tries([1, 0]), KNOWS)
        self.assertEqual(given, [[7], [0, 1, 8], [0, 1, 8], [2, 1, 1, 0, 1, 1, 1, 0]])


class Knows(unittest.TestCase):
    def test_a_key_with_two_other_cuts_that_does_not_open_tells_neither(self):
        self.assertEqual(ask(SMALL, tries([0, 0]), KNOWS)[1:], [[0, 1, 12], [1, 1, 1, 0, 1, 1, 0]])

    def test_a_key_with_two_other_cuts_that_opens_tells_both(self):
        both = begins(2, 1, [0, 0], [[0, 1], [0, 1]])
        self.assertEqual(ask(both, tries([1, 1]), KNOWS)[1:], [[1, 1, 1], [1, 2, 0, 1, 0, 2, 0, 1, 0]])

    def test_several_keys_together_tell_what_none_tells_alone(self):
        start = begins(2, 1, [0, 0, 0], [[0, 1], [0], [0, 1]])
        given = ask(start, tries([1, 1, 0]), KNOWS, tries([1, 0, 1]), KNOWS)
        self.assertEqual(given[2], [1, 1, 0, 0, 1, 0, 0, 1, 0, 0])
        self.assertEqual(given[4], [2, 2, 0, 1, 0, 1, 0, 1, 1, 2, 0, 1, 0])

    def test_lists_rise(self):
        start = begins(9, 0, [4], [[0, 2, 4, 6, 8]])
        given = ask(start, *[tries([cut]) for cut in (8, 7, 6, 5, 3, 2, 1, 0)], KNOWS)
        self.assertEqual(given[-1], [8, 5, 0, 2, 4, 6, 8, 4, 1, 3, 5, 7])


class Left(unittest.TestCase):
    def test_own_cuts_are_taken_and_all_others_open(self):
        self.assertEqual(ask(SMALL, LEFT), [[7], [16]])
        self.assertEqual(ask(begins(3, 2, [0, 1, 2, 1], [[0], [1], [2], [1]]), LEFT), [[81], [256]])

    def test_keys_that_cannot_be_cut_still_count_for_locks(self):
        self.assertEqual(ask(begins(2, 0, [0, 0], [[0], [0]]), LEFT, tries([1, 1]), LEFT), [[2], [4], [0, 1, 3], [3]])


class Next(unittest.TestCase):
    def test_first_key_of_the_best(self):
        self.assertEqual(ask(SMALL, NEXT)[1], [8, 2, 0, 1])

    def test_when_no_key_tells_more_it_is_the_first_of_all(self):
        self.assertEqual(ask(begins(2, 0, [1, 1], [[1], [1]]), tries([0, 0]), NEXT)[2], [3, 2, 0, 0])

    def test_only_keys_that_can_be_cut(self):
        self.assertEqual(ask(begins(2, 0, [0, 0], [[0], [0]]), NEXT)[1], [3, 2, 1, 1])

    def test_asking_tries_nothing(self):
        given = ask(SMALL, *PROBE, *PROBE)
        self.assertEqual(given[1:6], given[6:])


class Sure(unittest.TestCase):
    def test_own_alone(self):
        self.assertEqual(ask(SMALL, SURE)[1], [1, 0])

    def test_first_other_key_ahead_of_own_and_behind_it(self):
        self.assertEqual(ask(SMALL, tries([0, 1]), SURE)[2], [2, 2, 0, 1])
        self.assertEqual(ask(SMALL, tries([1, 2]), SURE)[2], [2, 2, 1, 2])

    def test_a_key_that_was_not_tried(self):
        start = begins(2, 1, [1, 1], [[0, 1], [0, 1]])
        self.assertEqual(ask(start, tries([0, 1]), tries([1, 0]), SURE)[3], [4, 2, 0, 0])

    def test_only_keys_that_can_be_cut(self):
        self.assertEqual(ask(SMALL, tries([0, 1]), tries([1, 2]), SURE)[3], [3, 2, 0, 1])


class Changes(unittest.TestCase):
    def test_by_place_then_by_cut(self):
        self.assertEqual(ask(SMALL, CHANGES)[1], [4, 1, 4, 2, 0, 1, 2, 2, 1, 2, 1, 0, 2, 1, 2])

    def test_only_those_that_can_be_cut_are_told(self):
        start = begins(3, 1, [0, 1], [[0], [1]])
        self.assertEqual(ask(start, CHANGES)[1], [4, 1, 3, 2, 1, 1, 2, 2, 1, 2, 0, 0])
        self.assertEqual(ask(begins(3, 0, [1, 1], [[1], [1]]), CHANGES)[1], [4, 1, 0])

    def test_one_depth(self):
        self.assertEqual(ask(begins(1, 0, [0] * 5, [[0]] * 5), CHANGES), [[1], [0, 1, 0]])

    def test_trying_changes_nothing(self):
        given = ask(SMALL, CHANGES, tries([0, 1]), CHANGES)
        self.assertEqual(given[1], given[3])


if __name__ == "__main__":
    unittest.main()
