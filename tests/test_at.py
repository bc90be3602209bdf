"""at: the items that are best for one share of two measures."""

import random
import unittest
from fractions import Fraction

from calling import WORKED, ask, ask_of, at, best_for, goods_of, load, made_lists, one_form, scores, top

GREAT = 10 ** 18


class At(unittest.TestCase):
    def test_worked_list(self):
        self.assertEqual(ask_of(WORKED, at(0, 1, 3, 5)), [[3, 1, 2, 4]])

    def test_beside_the_turning_share(self):
        told = ask_of(WORKED, at(0, 1, 599, 1000), at(0, 1, 601, 1000), at(0, 1, 2, 5), at(1, 0, 2, 5), at(1, 0, 3, 5))
        self.assertEqual(told, [[1, 2], [2, 1, 4], [1, 2], [3, 1, 2, 4], [1, 2]])

    def test_the_ends(self):
        told = ask_of(WORKED, at(0, 1, 0, 1), at(0, 1, 1, 1), at(1, 0, 0, 1), at(1, 0, 1, 1))
        self.assertEqual(told, [[1, 2], [2, 1, 4], [2, 1, 4], [1, 2]])

    def test_the_least_and_the_greatest_denominator(self):
        told = ask_of(WORKED, at(0, 1, 0, 1000), at(0, 1, 1000, 1000), at(0, 1, 600, 1000), at(0, 1, 1, 1))
        self.assertEqual(told, [[1, 2], [2, 1, 4], [3, 1, 2, 4], [2, 1, 4]])

    def test_a_share_not_in_lowest_terms(self):
        asked = [at(0, 1, 3 * times, 5 * times) for times in (1, 2, 7, 100, 200)]
        self.assertEqual(ask_of(WORKED, *asked), [[3, 1, 2, 4]] * 5)
        text = one_form([True, True], [[4, 0], [0, 4], [2, 2]])
        self.assertEqual(ask_of(text, *[at(0, 1, half, 2 * half) for half in range(1, 31)]), [[3, 0, 1, 2]] * 30)

    def test_no_items(self):
        told = ask_of("measures a up, b up;", at(0, 1, 0, 1), at(1, 0, 1, 1), at(0, 1, 500, 1000))
        self.assertEqual(told, [[0]] * 3)

    def test_one_item(self):
        for row in ([0, 0], [-5, -5], [7, -7]):
            told = ask_of(one_form([True, False], [row]), at(0, 1, 0, 1), at(0, 1, 1, 3), at(0, 1, 1, 1))
            self.assertEqual(told, [[1, 0]] * 3)

    def test_all_alike(self):
        text = one_form([True, False], [[-3, 4]] * 16)
        self.assertEqual(ask_of(text, at(0, 1, 1, 2), at(1, 0, 0, 9)), [[16] + list(range(16))] * 2)

    def test_several_in_order_of_their_numbers(self):
        text = one_form([True, True], [[3, 1], [0, 0], [1, 3], [2, 2], [9, -9], [0, 4]])
        self.assertEqual(ask_of(text, at(0, 1, 1, 2)), [[4, 0, 2, 3, 5]])
        self.assertEqual(ask_of(text, at(0, 1, 0, 2), at(0, 1, 2, 2)), [[1, 5], [1, 4]])

    def test_all_below_nought(self):
        text = one_form([False, False], [[9, 1], [1, 9], [5, 5], [6, 6]])
        self.assertEqual(ask_of(text, at(0, 1, 1, 2), at(0, 1, 0, 1), at(0, 1, 1, 1)), [[3, 0, 1, 2], [1, 0], [1, 1]])

    def test_the_same_as_with_weights(self):
        # The share p by q has the same best ones as the weights p and q less p, if they are weights.
        for p in range(0, 61, 4):
            first, told, best = ask_of(WORKED, top(1, p, 60 - p), scores(p, 60 - p), at(0, 1, p, 60))
            self.assertEqual(best[1], first[1])
            self.assertEqual(best[1:], [i for i in range(5) if told[1 + i] == max(told[1:])])

    def test_other_measures_do_not_count(self):
        text = one_form([True, True, True, True], [[1, 999, 2, -999], [2, -1000, 1, 7], [0, 0, 3, 0]])
        told = ask_of(text, at(0, 2, 1, 2), at(2, 0, 1, 3), at(0, 2, 1, 4), at(3, 1, 1, 1), at(3, 1, 0, 1))
        self.assertEqual(told, [[3, 0, 1, 2], [1, 1], [1, 2], [1, 1], [1, 0]])

    def test_made_lists(self):
        source = random.Random(71)
        several = 0
        for ups, rows in made_lists(300, 72, least_measures=2):
            m, k = source.sample(range(len(ups)), 2)
            q = source.choice((1, 2, 3, 4, 5, 6, 60, 999, 1000))
            p = source.randint(0, q)
            best = best_for(goods_of(ups, rows), m, k, Fraction(p, q))
            self.assertEqual(ask_of(one_form(ups, rows), at(m, k, p, q)), [[len(best)] + best])
            several += len(best) > 1
        self.assertGreater(several, 60)


class Refused(unittest.TestCase):
    def test_no_list(self):
        told = ask(at(0, 1, 1, 2), at(0, 0, 1, 2), at(0, 1, 2, 1), at(-1, GREAT, -GREAT, 0))
        self.assertEqual(told, [[-1]] * 4)
        self.assertEqual(ask(load(""), at(0, 1, 1, 2)), [[0, 3, 0], [-1]])

    def test_no_such_measures_or_both_the_same(self):
        for m, k in ((-1, 0), (0, -1), (2, 0), (0, 2), (1, 2), (2, 1), (0, 0), (1, 1), (2, 2), (GREAT, 0), (1, -GREAT)):
            self.assertEqual(ask_of(WORKED, at(m, k, 1, 2)), [[-5]])

    def test_measures_ahead_of_the_share(self):
        for p, q in ((1, 0), (-1, 5), (6, 5), (0, 1001), (GREAT, GREAT)):
            told = ask_of(WORKED, at(0, 0, p, q), at(-1, 1, p, q), at(0, 2, p, q), at(0, 1, p, q))
            self.assertEqual(told, [[-5], [-5], [-5], [-6]])

    def test_the_denominator(self):
        told = ask_of(
            WORKED, at(0, 1, 0, 0), at(0, 1, 0, -1), at(0, 1, -1, -1), at(0, 1, 0, 1001), at(0, 1, 1001, 1001),
            at(0, 1, 1, GREAT), at(0, 1, 0, -GREAT), at(0, 1, -GREAT, -GREAT),
        )
        self.assertEqual(told, [[-6]] * 8)

    def test_the_numerator(self):
        told = ask_of(
            WORKED, at(0, 1, -1, 1), at(0, 1, 2, 1), at(0, 1, -1, 1000), at(0, 1, 1001, 1000), at(0, 1, 6, 5),
            at(0, 1, GREAT, 1000), at(0, 1, -GREAT, 1000),
        )
        self.assertEqual(told, [[-6]] * 7)

    def test_each_share_about_one_denominator(self):
        text = one_form([True, True], [[0, 0]])
        for q in (1, 2, 7, 999, 1000):
            told = ask_of(text, *[at(0, 1, p, q) for p in (-2, -1, 0, 1, q - 1, q, q + 1, q + 2)])
            self.assertEqual(told, [[-6], [-6], [1, 0], [1, 0], [1, 0], [1, 0], [-6], [-6]])

    def test_a_list_of_no_items(self):
        told = ask_of("measures a up, b up;", at(0, 1, 2, 1), at(0, 2, 2, 1), at(0, 1, 0, 0))
        self.assertEqual(told, [[-6], [-5], [-6]])

    def test_one_measure(self):
        self.assertEqual(ask_of("measures a up; item x : 1;", at(0, 0, 0, 1), at(0, 1, 0, 1)), [[-5]] * 2)


if __name__ == "__main__":
    unittest.main()
