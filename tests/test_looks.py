"""looks: how deep one looks for the k best, and what is found."""

import random
import unittest

from calling import WORKED, ask, ask_of, goods_of, load, looks, looks_by_words, made_lists, made_weights, one_form

GREAT = 10 ** 18


class Looks(unittest.TestCase):
    def test_worked_list(self):
        self.assertEqual(ask_of(WORKED, looks(1, 1, 1)), [[3, 6, 5, 1, 2]])

    def test_k_of_nought_looks_at_nothing(self):
        self.assertEqual(ask_of(WORKED, looks(0, 1, 1)), [[0, 0, 0, 0]])

    def test_no_items(self):
        told = ask_of("measures a up, b up;", looks(0, 1, 1), looks(1, 1, 1), looks(16, 1, 0))
        self.assertEqual(told, [[0, 0, 0, 0]] * 3)

    def test_k_above_the_number_of_items_looks_at_all(self):
        told = ask_of(WORKED, looks(6, 1, 1), looks(16, 1, 1))
        self.assertEqual(told, [[5, 10, 5, 5, 2, 0, 1, 4, 3]] * 2)

    def test_k_just_the_number_of_items(self):
        # The last item's score is just the limit at the end: no depth before it is enough.
        text = one_form([True], [[3], [2], [1]])
        self.assertEqual(ask_of(text, looks(3, 1)), [[3, 3, 3, 3, 0, 1, 2]])

    def test_one_item(self):
        self.assertEqual(ask_of(one_form([True], [[4]]), looks(1, 1)), [[1, 1, 1, 1, 0]])

    def test_one_list_stops_one_behind(self):
        # In one list an item is above the limit first when one looks at a lesser one behind it.
        text = one_form([True], [[9], [8], [7], [6]])
        self.assertEqual(ask_of(text, looks(1, 1), looks(2, 1)), [[2, 2, 2, 1, 0], [3, 3, 3, 2, 0, 1]])

    def test_a_score_that_is_just_the_limit_is_not_enough(self):
        text = one_form([True, True], [[5, 5], [5, 5], [0, 0]])
        self.assertEqual(ask_of(text, looks(1, 1, 1)), [[3, 6, 3, 1, 0]])
        text = one_form([True, True], [[5, 5], [4, 5], [0, 0]])
        self.assertEqual(ask_of(text, looks(1, 1, 1)), [[2, 4, 2, 1, 0]])

    def test_the_lists_may_end_before_all_is_sure(self):
        text = one_form([True, True], [[2, 2]] * 4)
        self.assertEqual(ask_of(text, looks(2, 1, 1)), [[4, 8, 4, 2, 0, 1]])

    def test_not_all_items_need_be_seen(self):
        text = one_form([True, True], [[9, 9], [1, 1], [2, 2], [0, 0], [3, 3]])
        self.assertEqual(ask_of(text, looks(1, 1, 1)), [[2, 4, 2, 1, 0]])
        self.assertEqual(ask_of(text, looks(2, 1, 1)), [[3, 6, 3, 2, 0, 4]])

    def test_different_lists_see_different_items(self):
        text = one_form([True, True], [[9, 0], [0, 9], [6, 6], [1, 1]])
        self.assertEqual(ask_of(text, looks(1, 1, 1)), [[3, 6, 4, 1, 2]])

    def test_alike_good_values_by_lesser_number(self):
        # Items 1 and 2 are alike by the first measure: at depth 2 the one with the lesser number is seen.
        text = one_form([True, True], [[9, 9], [4, 0], [4, 1], [0, 8]])
        self.assertEqual(ask_of(text, looks(1, 1, 1)), [[2, 4, 3, 1, 0]])
        text = one_form([True], [[5], [5], [9]])
        self.assertEqual(ask_of(text, looks(1, 1)), [[2, 2, 2, 1, 2]])

    def test_down_lists_begin_with_the_least_value(self):
        text = one_form([False, False], [[7, 7], [1, 2], [9, 9]])
        self.assertEqual(ask_of(text, looks(1, 1, 1)), [[2, 4, 2, 1, 1]])

    def test_a_measure_with_weight_nought_has_no_list(self):
        told = ask_of(WORKED, looks(1, 1, 0), looks(1, 0, 1), looks(2, 0, 7))
        self.assertEqual(told, [[3, 3, 3, 1, 1], [2, 2, 2, 1, 2], [4, 4, 4, 2, 2, 0]])

    def test_the_limit_has_the_weights(self):
        text = one_form([True, True], [[10, 0], [8, 3], [0, 4], [7, 2]])
        self.assertEqual(ask_of(text, looks(1, 5, 1)), [[2, 4, 3, 1, 0]])
        self.assertEqual(ask_of(text, looks(1, 1, 5)), [[3, 6, 4, 1, 1]])

    def test_made_lists(self):
        source = random.Random(31)
        depths = set()
        for ups, rows in made_lists(400, 32):
            weights = made_weights(len(ups), source)
            k = source.randint(0, 16) if source.random() < 0.3 else source.randint(0, 3)
            wanted = looks_by_words(goods_of(ups, rows), weights, k)
            self.assertEqual(ask_of(one_form(ups, rows), looks(k, *weights)), [wanted])
            depths.add(wanted[0])
        self.assertTrue(depths.issuperset(range(12)))


class Refused(unittest.TestCase):
    def test_no_list(self):
        self.assertEqual(ask(looks(1, 1), looks(-1, 1), looks(1)), [[-1]] * 3)
        self.assertEqual(ask(load("$"), looks(1, 1)), [[0, 2, 0], [-1]])

    def test_k(self):
        told = ask_of(WORKED, looks(-1, 1, 1), looks(17, 1, 1), looks(GREAT, 1, 1), looks(-GREAT, 1, 1))
        self.assertEqual(told, [[-3]] * 4)

    def test_k_ahead_of_weights(self):
        told = ask_of(WORKED, looks(-1, 0, 0), looks(17, 1), looks(17), looks(-1, 101, 1), looks(17, -1, 1))
        self.assertEqual(told, [[-3]] * 5)

    def test_weights(self):
        told = ask_of(
            WORKED, looks(1), looks(1, 1), looks(1, 1, 1, 1), looks(1, -1, 1), looks(1, 1, 101), looks(1, 0, 0),
            looks(0, 0, 0), looks(16, 0, 0),
        )
        self.assertEqual(told, [[-4]] * 8)

    def test_weights_of_no_items(self):
        self.assertEqual(ask_of("measures a up;", looks(1, 0), looks(17, 1)), [[-4], [-3]])


if __name__ == "__main__":
    unittest.main()
