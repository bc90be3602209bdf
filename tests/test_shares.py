"""shares: from which share to which an item is best."""

import random
import unittest

from calling import (
    WORKED, ask, ask_of, goods_of, load, made_bends, made_lists, one_form, shares, span_of, told_span,
)

GREAT = 10 ** 18
ALL = [1, 0, 1, 1, 1]
NOUGHT = [1, 0, 1, 0, 1]
ONE = [1, 1, 1, 1, 1]


class Shares(unittest.TestCase):
    def test_worked_list(self):
        told = ask_of(WORKED, shares(2, 0, 1), shares(0, 0, 1), shares(4, 0, 1))
        self.assertEqual(told, [[1, 0, 1, 3, 5], [0], [1, 3, 5, 1, 1]])

    def test_the_others_of_the_worked_list(self):
        self.assertEqual(ask_of(WORKED, shares(1, 0, 1), shares(3, 0, 1)), [[1, 3, 5, 1, 1], [0]])

    def test_the_same_two_measures_the_other_way_round(self):
        told = ask_of(WORKED, *[shares(i, 1, 0) for i in range(5)])
        self.assertEqual(told, [[0], [1, 0, 1, 2, 5], [1, 2, 5, 1, 1], [0], [1, 0, 1, 2, 5]])

    def test_for_all(self):
        for row in ([0, 0], [-9, 4], [1000, 1000]):
            self.assertEqual(ask_of(one_form([True, False], [row]), shares(0, 0, 1), shares(0, 1, 0)), [ALL] * 2)
        text = one_form([True, True], [[1, 1], [2, 2], [0, 2], [2, 0]])
        self.assertEqual(ask_of(text, shares(1, 0, 1)), [ALL])

    def test_for_none(self):
        # No item beats item 2, but for each share another one has more.
        text = one_form([True, True], [[9, 0], [0, 9], [4, 4], [0, 0]])
        told = ask_of(text, shares(2, 0, 1), shares(3, 0, 1), shares(0, 0, 1), shares(1, 0, 1))
        self.assertEqual(told, [[0], [0], [1, 1, 2, 1, 1], [1, 0, 1, 1, 2]])

    def test_for_one_share_alone(self):
        text = one_form([True, True], [[4, 0], [2, 2], [0, 4]])
        told = ask_of(text, shares(0, 0, 1), shares(1, 0, 1), shares(2, 0, 1))
        self.assertEqual(told, [[1, 1, 2, 1, 1], [1, 1, 2, 1, 2], [1, 0, 1, 1, 2]])
        text = one_form([True, True], [[6, 0], [4, 1], [0, 3]])
        self.assertEqual(ask_of(text, shares(1, 0, 1), shares(1, 1, 0)), [[1, 1, 3, 1, 3], [1, 2, 3, 2, 3]])

    def test_for_nought_alone(self):
        text = one_form([True, True], [[1, 5], [3, 5]])
        self.assertEqual(ask_of(text, shares(0, 0, 1), shares(1, 0, 1), shares(0, 1, 0)), [NOUGHT, ALL, ONE])

    def test_for_one_alone(self):
        text = one_form([True, True], [[5, 1], [5, 3]])
        self.assertEqual(ask_of(text, shares(0, 0, 1), shares(1, 0, 1), shares(0, 1, 0)), [ONE, ALL, NOUGHT])

    def test_neither_at_nought_nor_at_one(self):
        text = one_form([True, True], [[9, 0], [7, 5], [0, 9]])
        self.assertEqual(ask_of(text, shares(1, 0, 1)), [[1, 4, 11, 5, 7]])

    def test_hardly_less_at_an_end_is_none_there(self):
        text = one_form([True, True], [[1000, 1000], [-1000, 999], [999, -1000]])
        self.assertEqual(ask_of(text, shares(0, 0, 1), shares(1, 0, 1), shares(2, 0, 1)), [ALL, [0], [0]])

    def test_same_by_both_measures(self):
        text = one_form([True, True], [[1, 5], [5, 1], [1, 5], [3, 3], [5, 1], [3, 3]])
        first, last, middle = [1, 0, 1, 1, 2], [1, 1, 2, 1, 1], [1, 1, 2, 1, 2]
        told = ask_of(text, *[shares(i, 0, 1) for i in range(6)])
        self.assertEqual(told, [first, last, first, middle, last, middle])
        text = one_form([False, True], [[2, 7]] * 16)
        self.assertEqual(ask_of(text, *[shares(i, 0, 1) for i in range(16)]), [ALL] * 16)

    def test_measures_down_and_values_with_a_minus(self):
        text = "measures a down, b up; item x : -4, - 2; item y : -1, 7; item z : -0, 7; item w : 9, 1;"
        told = ask_of(text, *[shares(i, 0, 1) for i in range(4)])
        self.assertEqual(told, [[1, 3, 4, 1, 1], [1, 0, 1, 3, 4], NOUGHT, [0]])

    def test_exact_ends(self):
        text = one_form([True, True], [[1000, -1000], [-999, 1000]])
        self.assertEqual(ask_of(text, shares(0, 0, 1), shares(1, 0, 1)), [[1, 2000, 3999, 1, 1], [1, 0, 1, 2000, 3999]])
        text = one_form([True, True], [[-1000, 1000], [1000, -999], [1, 0], [0, 1]])
        told = ask_of(text, *[shares(i, 0, 1) for i in range(4)])
        self.assertEqual(told, [[1, 0, 1, 999, 1999], [1, 1, 2, 1, 1], [1, 1, 2, 1, 2], [1, 999, 1999, 1, 2]])

    def test_each_two_of_four_measures(self):
        ups, rows = [True, False, True, False], [[1, 2, 3, 4], [4, 3, 2, 1], [0, 0, 9, 9], [2, 1, 4, 2], [5, 5, 0, 3]]
        goods = goods_of(ups, rows)
        for m in range(4):
            for k in range(4):
                told = ask_of(one_form(ups, rows), *[shares(i, m, k) for i in range(5)])
                wanted = [[-5] if m == k else told_span(span_of(goods, i, m, k)) for i in range(5)]
                self.assertEqual(told, wanted)

    def test_made_lists(self):
        source = random.Random(81)
        kinds = {}
        for ups, rows in list(made_lists(200, 82, least_measures=2)) + list(made_bends(100, 83)):
            m, k = source.sample(range(len(ups)), 2)
            goods = goods_of(ups, rows)
            told = ask_of(one_form(ups, rows), *[shares(i, m, k) for i in range(len(rows))])
            self.assertEqual(told, [told_span(span_of(goods, i, m, k)) for i in range(len(rows))])
            for answer in told:
                kind = (answer[0], answer[1:3] == answer[3:])
                kinds[kind] = kinds.get(kind, 0) + 1
        self.assertTrue(all(kinds[kind] > 50 for kind in ((0, True), (1, True), (1, False))), kinds)


class Refused(unittest.TestCase):
    def test_no_list(self):
        told = ask(shares(0, 0, 1), shares(-1, 0, 1), shares(0, 0, 0), shares(GREAT, -GREAT, GREAT))
        self.assertEqual(told, [[-1]] * 4)
        self.assertEqual(ask(load(""), shares(0, 0, 1)), [[0, 3, 0], [-1]])

    def test_no_such_item(self):
        told = ask_of(WORKED, *[shares(i, 0, 1) for i in (-1, 5, 6, 16, GREAT, -GREAT)])
        self.assertEqual(told, [[-2]] * 6)

    def test_a_list_of_no_items(self):
        told = ask_of("measures a up, b up;", shares(0, 0, 1), shares(-1, 0, 1), shares(0, 0, 0), shares(1, 0, 2))
        self.assertEqual(told, [[-2]] * 4)

    def test_item_ahead_of_measures(self):
        for m, k in ((0, 0), (-1, 0), (0, -1), (2, 0), (0, 2), (GREAT, -GREAT)):
            told = ask_of(WORKED, shares(-1, m, k), shares(5, m, k), shares(GREAT, m, k), shares(0, m, k))
            self.assertEqual(told, [[-2], [-2], [-2], [-5]])

    def test_no_such_measures_or_both_the_same(self):
        for m, k in ((-1, 0), (0, -1), (2, 0), (0, 2), (1, 2), (2, 1), (0, 0), (1, 1), (2, 2), (GREAT, 0), (1, -GREAT)):
            self.assertEqual(ask_of(WORKED, shares(4, m, k), shares(0, m, k)), [[-5]] * 2)

    def test_one_measure(self):
        told = ask_of("measures a up; item x : 1;", shares(0, 0, 0), shares(0, 0, 1), shares(1, 0, 0))
        self.assertEqual(told, [[-5], [-5], [-2]])


if __name__ == "__main__":
    unittest.main()
