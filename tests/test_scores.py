"""scores: each item's score, and which numbers are weights."""

import random
import unittest

from calling import WORKED, ask, ask_of, goods_of, load, made_lists, made_weights, one_form, score, scores

GREAT = 10 ** 18


class Scores(unittest.TestCase):
    def test_worked_list(self):
        self.assertEqual(ask_of(WORKED, scores(1, 1)), [[5, -5, -5, -3, -7, -5]])

    def test_weights_count_each_for_its_measure(self):
        told = ask_of(WORKED, scores(2, 3), scores(3, 2), scores(100, 100))
        self.assertEqual(told[0], [5, -5, -7, 3, -9, -7])
        self.assertEqual(told[1], [5, -20, -18, -18, -26, -18])
        self.assertEqual(told[2], [5, -500, -500, -300, -700, -500])

    def test_a_weight_of_nought_beside_others(self):
        told = ask_of(WORKED, scores(1, 0), scores(0, 1))
        self.assertEqual(told, [[5, -10, -8, -12, -12, -8], [5, 5, 3, 9, 5, 3]])

    def test_no_items(self):
        self.assertEqual(ask_of("measures a up, b down;", scores(1, 1)), [[0]])

    def test_greatest_and_least(self):
        text = one_form([True, False, True, False], [[1000, -1000, 1000, -1000], [-1000, 1000, -1000, 1000]])
        self.assertEqual(ask_of(text, scores(100, 100, 100, 100)), [[2, 400000, -400000]])

    def test_made_lists(self):
        source = random.Random(11)
        for ups, rows in made_lists(200, 12):
            weights = made_weights(len(ups), source)
            wanted = [len(rows)] + [score(good, weights) for good in goods_of(ups, rows)]
            self.assertEqual(ask_of(one_form(ups, rows), scores(*weights)), [wanted])


class Refused(unittest.TestCase):
    def test_no_list(self):
        self.assertEqual(ask(scores(1, 1)), [[-1]])
        self.assertEqual(ask(scores()), [[-1]])
        self.assertEqual(ask(load("measures"), scores(1)), [[0, 3, 8], [-1]])

    def test_too_few_or_too_many(self):
        told = ask_of(WORKED, scores(), scores(1), scores(1, 1, 1), scores(1, 1, 0), scores(*[1] * 2000))
        self.assertEqual(told, [[-4]] * 5)

    def test_one_to_four_measures_ask_for_as_many(self):
        for measures in (1, 2, 3, 4):
            text = one_form([True] * measures, [])
            for many in range(6):
                wanted = [0] if many == measures else [-4]
                self.assertEqual(ask_of(text, scores(*[1] * many)), [wanted])

    def test_below_nought(self):
        self.assertEqual(ask_of(WORKED, scores(-1, 1), scores(1, -1), scores(-GREAT, 1)), [[-4]] * 3)

    def test_above_a_hundred(self):
        self.assertEqual(ask_of(WORKED, scores(101, 1), scores(1, 101), scores(1, GREAT)), [[-4]] * 3)
        self.assertEqual(ask_of(WORKED, scores(100, 0))[0][0], 5)

    def test_all_nought(self):
        self.assertEqual(ask_of(WORKED, scores(0, 0)), [[-4]])
        self.assertEqual(ask_of("measures a up;", scores(0)), [[-4]])

    def test_together_nought_but_not_each(self):
        self.assertEqual(ask_of(WORKED, scores(-1, 2), scores(2, -1), scores(-1, 1)), [[-4]] * 3)


if __name__ == "__main__":
    unittest.main()
