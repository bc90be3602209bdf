"""Several calls in one list: what the object holds between them, and how answers stand."""

import unittest

from bestweights.items import answers
from calling import WORKED, ask, bytes_of, load, looks, one_form, scores, top


class InOneList(unittest.TestCase):
    def test_worked_list_number_by_number(self):
        text = bytes_of(WORKED)
        calls = [0, len(text)] + text + [1, 2, 1, 1, 2, 2, 2, 1, 1, 3, 1, 2, 1, 1]
        wanted = [3, 1, 2, 5, 6, 5, -5, -5, -3, -7, -5, 3, 2, 2, 0, 5, 3, 6, 5, 1, 2]
        self.assertEqual(answers(calls), wanted)

    def test_a_refusal_is_one_number(self):
        self.assertEqual(answers([1, 1, 1]), [1, -1])
        self.assertEqual(answers([2, 5, 0]), [1, -1])

    def test_a_fault_is_three_numbers(self):
        self.assertEqual(answers([0, 0]), [3, 0, 3, 0])

    def test_rows_of_no_numbers(self):
        self.assertEqual(ask(load(""), scores(), top(0), looks(0)), [[0, 3, 0], [-1], [-1], [-1]])

    def test_singles_and_rows_that_look_like_calls(self):
        text = one_form([True, True, True], [[1, 2, 3]])
        told = ask(load(text), top(3, 3, 0, 2), looks(1, 1, 2, 3), scores(2, 3, 0), top(2, 0, 3, 3))
        self.assertEqual(told[1:], [[1, 0], [1, 3, 1, 1, 0], [1, 8], [1, 0]])


class WhatIsHeld(unittest.TestCase):
    def test_a_list_is_held_until_another_is_loaded(self):
        told = ask(
            scores(1), load("measures a up; item x : 4;"), scores(1), scores(1), load(WORKED), scores(1), scores(1, 1),
            load("measures a up;"), scores(1),
        )
        wanted = [[-1], [1, 1, 1], [1, 4], [1, 4], [1, 2, 5], [-4], [5, -5, -5, -3, -7, -5], [1, 1, 0], [0]]
        self.assertEqual(told, wanted)

    def test_a_load_that_fails_leaves_the_list(self):
        for wrong, code, place in (
            ("#" * 4097, 1, 4096), ("$", 2, 0), ("measures b down; item y : 9; item z", 3, 35),
            ("measures a up, b up, c up, d up, e up;", 4, 33), ("measures b down; item y : 9; item y : 3;", 5, 34),
            ("measures b down; item y : 9, 1001;", 3, 27), ("measures b down; item y : 1001;", 7, 26),
        ):
            told = ask(load("measures a up; item x : 4;"), load(wrong), scores(1), top(3, 1), looks(3, 1))
            self.assertEqual(told, [[1, 1, 1], [0, code, place], [1, 4], [1, 0], [1, 1, 1, 1, 0]])

    def test_a_load_that_fails_leaves_none(self):
        self.assertEqual(ask(load("measures a"), scores(1), top(99, 1), looks(0))[1:], [[-1]] * 3)

    def test_refusals_leave_the_list(self):
        told = ask(load(WORKED), scores(0, 0), top(17, 1, 1), looks(-1), looks(2, 1), scores(1, 1))
        self.assertEqual(told[1:], [[-4], [-3], [-3], [-4], [5, -5, -5, -3, -7, -5]])

    def test_nothing_is_kept_from_one_time_to_the_next(self):
        first = ask(load(WORKED), scores(1, 1), looks(1, 1, 1))
        self.assertEqual(ask(scores(1, 1)), [[-1]])
        self.assertEqual(ask(load(WORKED), scores(1, 1), looks(1, 1, 1)), first)
        self.assertEqual(ask(looks(1, 1, 1)), [[-1]])

    def test_what_was_given_back_may_be_changed(self):
        calls = load(WORKED) + scores(1, 1)
        first = answers(calls)
        wanted = list(first)
        first.clear()
        self.assertEqual(answers(calls), wanted)


class ManyCalls(unittest.TestCase):
    def test_forty_calls(self):
        calls, wanted = [], []
        for number in range(10):
            calls += [load(one_form([True], [[number], [number + 1]])), scores(2), top(1, 1), load("x")]
            wanted += [[1, 1, 2], [2, 2 * number, 2 * number + 2], [1, 1], [0, 3, 0]]
        self.assertEqual(len(calls), 40)
        self.assertEqual(ask(*calls), wanted)

    def test_forty_searches(self):
        calls = [load(WORKED)] + [looks(number % 17, 1, 1) for number in range(39)]
        told = ask(*calls)
        self.assertEqual(len(told), 40)
        self.assertEqual([answer[3] for answer in told[1:]], [min(number % 17, 5) for number in range(39)])

    def test_long_rows(self):
        told = ask(load("#" * 8192), load(WORKED), scores(*[1] * 2000), top(1, *[0] * 2000), looks(1, *[5] * 2000))
        self.assertEqual(told, [[0, 1, 4096], [1, 2, 5], [-4], [-4], [-4]])

    def test_what_is_handed_in_stays(self):
        calls = load(WORKED) + scores(1, 1) + top(3, 1, 0) + looks(2, 0, 1) + load("$") + scores(7)
        before = list(calls)
        answers(calls)
        self.assertEqual(calls, before)


if __name__ == "__main__":
    unittest.main()
