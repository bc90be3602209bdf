"""top: the first few in order."""

import random
import unittest

from calling import WORKED, ask, ask_of, goods_of, load, made_lists, made_weights, one_form, order_of, top

GREAT = 10 ** 18


class Top(unittest.TestCase):
    def test_worked_list(self):
        self.assertEqual(ask_of(WORKED, top(2, 1, 1)), [[2, 2, 0]])

    def test_each_k(self):
        order = [2, 0, 1, 4, 3]
        for k in range(17):
            best = order[:k]
            self.assertEqual(ask_of(WORKED, top(k, 1, 1)), [[len(best)] + best])

    def test_k_of_nought(self):
        self.assertEqual(ask_of(WORKED, top(0, 1, 1)), [[0]])

    def test_no_items(self):
        self.assertEqual(ask_of("measures a up;", top(0, 1), top(1, 1), top(16, 1)), [[0]] * 3)

    def test_sixteen_items(self):
        text = one_form([True], [[i] for i in range(16)])
        self.assertEqual(ask_of(text, top(16, 1)), [[16] + list(range(15, -1, -1))])
        self.assertEqual(ask_of(text, top(15, 1)), [[15] + list(range(15, 0, -1))])

    def test_alike_scores_by_lesser_number(self):
        text = one_form([True], [[5]] * 16)
        self.assertEqual(ask_of(text, top(16, 1), top(3, 7)), [[16] + list(range(16)), [3, 0, 1, 2]])

    def test_a_weight_of_nought_beside_others(self):
        told = ask_of(WORKED, top(5, 1, 0), top(5, 0, 1))
        self.assertEqual(told, [[5, 1, 4, 0, 2, 3], [5, 2, 0, 3, 1, 4]])

    def test_made_lists(self):
        source = random.Random(21)
        for ups, rows in made_lists(200, 22):
            weights = made_weights(len(ups), source)
            k = source.randint(0, 16)
            best = order_of(goods_of(ups, rows), weights)[:k]
            self.assertEqual(ask_of(one_form(ups, rows), top(k, *weights)), [[len(best)] + best])


class Refused(unittest.TestCase):
    def test_no_list(self):
        self.assertEqual(ask(top(1, 1), top(-1, 1), top(1)), [[-1]] * 3)
        self.assertEqual(ask(load(""), top(1, 1)), [[0, 3, 0], [-1]])

    def test_k(self):
        told = ask_of(WORKED, top(-1, 1, 1), top(17, 1, 1), top(GREAT, 1, 1), top(-GREAT, 1, 1))
        self.assertEqual(told, [[-3]] * 4)

    def test_k_ahead_of_weights(self):
        told = ask_of(WORKED, top(-1, 0, 0), top(17, 1), top(17), top(-1, 101, 1), top(17, -1, 1))
        self.assertEqual(told, [[-3]] * 5)

    def test_weights(self):
        told = ask_of(
            WORKED, top(1), top(1, 1), top(1, 1, 1, 1), top(1, -1, 1), top(1, 1, 101), top(1, 0, 0), top(0, 0, 0),
            top(16, 0, 0),
        )
        self.assertEqual(told, [[-4]] * 8)


if __name__ == "__main__":
    unittest.main()
