"""rank: how many items are ahead of one by score, and how many have the same."""

import random
import unittest

from calling import (
    WORKED, ask, ask_of, goods_of, load, made_lists, made_weights, one_form, order_of, rank, rank_of,
)

GREAT = 10 ** 18


class Rank(unittest.TestCase):
    def test_worked_list(self):
        self.assertEqual(ask_of(WORKED, rank(0, 1, 1)), [[1, 2, 3]])

    def test_each_item(self):
        told = ask_of(WORKED, *[rank(i, 1, 1) for i in range(5)])
        self.assertEqual(told, [[1, 2, 3], [1, 2, 3], [1, 1, 1], [1, 5, 1], [1, 2, 3]])

    def test_weights_count_each_for_its_measure(self):
        told = ask_of(WORKED, rank(2, 1, 0), rank(2, 0, 1), rank(0, 1, 0), rank(0, 100, 1), rank(0, 1, 100))
        self.assertEqual(told, [[1, 4, 2], [1, 1, 1], [1, 3, 1], [1, 3, 1], [1, 2, 1]])

    def test_one_item(self):
        self.assertEqual(ask_of("measures a up; item x : 0;", rank(0, 1), rank(0, 100)), [[1, 1, 1]] * 2)

    def test_all_alike(self):
        text = one_form([True, False], [[3, 4]] * 16)
        self.assertEqual(ask_of(text, *[rank(i, 2, 5) for i in range(16)]), [[1, 1, 16]] * 16)

    def test_all_different(self):
        text = one_form([True], [[i] for i in range(16)])
        self.assertEqual(ask_of(text, *[rank(i, 7) for i in range(16)]), [[1, 16 - i, 1] for i in range(16)])

    def test_alike_scores_of_items_that_differ(self):
        # An item's number does not count here: the ones alike have the same rank, before it or behind it.
        text = one_form([True, True], [[1, 3], [0, 0], [2, 2], [9, 9], [3, 1], [0, 1]])
        told = ask_of(text, *[rank(i, 1, 1) for i in range(6)])
        self.assertEqual(told, [[1, 2, 3], [1, 6, 1], [1, 2, 3], [1, 1, 1], [1, 2, 3], [1, 5, 1]])

    def test_scores_below_nought(self):
        text = one_form([False], [[5], [0], [-5], [7]])
        self.assertEqual(ask_of(text, *[rank(i, 1) for i in range(4)]), [[1, 3, 1], [1, 2, 1], [1, 1, 1], [1, 4, 1]])

    def test_made_lists(self):
        source = random.Random(51)
        for ups, rows in made_lists(200, 52):
            weights = made_weights(len(ups), source)
            goods = goods_of(ups, rows)
            told = ask_of(one_form(ups, rows), *[rank(i, *weights) for i in range(len(rows))])
            self.assertEqual(told, [[1] + rank_of(goods, i, weights) for i in range(len(rows))])
            order = order_of(goods, weights)
            for i, (_, ahead, same) in enumerate(told):
                self.assertIn(i, order[ahead - 1:ahead - 1 + same])


class Refused(unittest.TestCase):
    def test_no_list(self):
        self.assertEqual(ask(rank(0, 1), rank(-1, 1), rank(0), rank(0, 0)), [[-1]] * 4)
        self.assertEqual(ask(load("$"), rank(0, 1)), [[0, 2, 0], [-1]])

    def test_no_such_item(self):
        told = ask_of(WORKED, rank(-1, 1, 1), rank(5, 1, 1), rank(16, 1, 1), rank(GREAT, 1, 1), rank(-GREAT, 1, 1))
        self.assertEqual(told, [[-2]] * 5)

    def test_each_number_of_items(self):
        for many in range(17):
            told = ask_of(one_form([True], [[0]] * many), *[rank(i, 1) for i in range(-2, 19)])
            self.assertEqual(told, [[1, 1, many] if 0 <= i < many else [-2] for i in range(-2, 19)])

    def test_a_list_of_no_items(self):
        told = ask_of("measures a up;", rank(0, 1), rank(-1, 1), rank(0), rank(0, 0), rank(1, 101))
        self.assertEqual(told, [[-2]] * 5)

    def test_item_ahead_of_weights(self):
        told = ask_of(WORKED, rank(-1, 0, 0), rank(5, 1), rank(5), rank(-GREAT, 101, 1), rank(GREAT, -1, 1))
        self.assertEqual(told, [[-2]] * 5)

    def test_weights(self):
        told = ask_of(
            WORKED, rank(0), rank(0, 1), rank(0, 1, 1, 1), rank(4, -1, 1), rank(4, 1, 101), rank(4, 0, 0),
            rank(0, GREAT, 1), rank(0, 1, -GREAT), rank(0, -1, 2), rank(0, *[1] * 2000),
        )
        self.assertEqual(told, [[-4]] * 10)


if __name__ == "__main__":
    unittest.main()
