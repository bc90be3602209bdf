"""between: the pieces of two measures against each other."""

import unittest

from calling import (
    WORKED, ask, ask_of, between, goods_of, load, made_bends, made_lists, one_form, pieces_of, pieces_told,
    told_pieces,
)

GREAT = 10 ** 18
WHOLE = [1, 0, 0, 1, 1, 1]


class Between(unittest.TestCase):
    def test_worked_list(self):
        self.assertEqual(ask_of(WORKED, between(0, 1)), [[2, 2, 0, 1, 3, 5, 1, 3, 5, 1, 1]])

    def test_the_same_two_measures_the_other_way_round(self):
        self.assertEqual(ask_of(WORKED, between(1, 0)), [[2, 1, 0, 1, 2, 5, 2, 2, 5, 1, 1]])

    def test_no_items(self):
        self.assertEqual(ask_of("measures a up, b up;", between(0, 1), between(1, 0)), [[0]] * 2)

    def test_one_item(self):
        for row in ([0, 0], [3, -7], [-1000, 1000]):
            for ups in ([True, True], [True, False], [False, True], [False, False]):
                self.assertEqual(ask_of(one_form(ups, [row]), between(0, 1), between(1, 0)), [WHOLE] * 2)

    def test_the_ends_are_in_lowest_terms(self):
        text = one_form([True, True], [[0, 4], [4, 0]])
        self.assertEqual(ask_of(text, between(0, 1)), [[2, 0, 0, 1, 1, 2, 1, 1, 2, 1, 1]])
        text = one_form([True, True], [[0, 600], [900, 0]])
        self.assertEqual(ask_of(text, between(0, 1)), [[2, 0, 0, 1, 2, 5, 1, 2, 5, 1, 1]])

    def test_one_item_that_beats_all_has_the_only_piece(self):
        text = one_form([True, True], [[1, 5], [6, 6], [5, 1], [6, 5]])
        self.assertEqual(ask_of(text, between(0, 1), between(1, 0)), [[1, 1, 0, 1, 1, 1]] * 2)

    def test_pieces_follow_by_share_not_by_number(self):
        text = one_form([True, True], [[9, 0], [6, 6], [0, 9]])
        wanted = [[3, 2, 0, 1, 1, 3, 1, 1, 3, 2, 3, 0, 2, 3, 1, 1], [3, 0, 0, 1, 1, 3, 1, 1, 3, 2, 3, 2, 2, 3, 1, 1]]
        self.assertEqual(ask_of(text, between(0, 1), between(1, 0)), wanted)

    def test_same_by_both_measures_the_least_number_has_the_piece(self):
        text = one_form([True, True], [[0, 0], [5, 1], [1, 5], [5, 1], [1, 5], [1, 5]])
        self.assertEqual(ask_of(text, between(0, 1)), [[2, 2, 0, 1, 1, 2, 1, 1, 2, 1, 1]])
        text = one_form([True, False], [[3, 3]] * 16)
        self.assertEqual(ask_of(text, between(0, 1)), [WHOLE])

    def test_same_by_both_measures_but_not_by_a_third(self):
        text = one_form([True, True, True], [[5, 0, 1], [5, 9, 1], [1, 3, 5]])
        self.assertEqual(ask_of(text, between(0, 2)), [[2, 2, 0, 1, 1, 2, 0, 1, 2, 1, 1]])
        self.assertEqual(ask_of(text, between(0, 1)), [[1, 1, 0, 1, 1, 1]])
        self.assertEqual(ask_of(text, between(2, 1)), [[2, 1, 0, 1, 3, 5, 2, 3, 5, 1, 1]])

    def test_best_at_a_single_share_alone_has_no_piece(self):
        # All three come to the same at 1 by 2, and item 0 has the least number there, but nowhere else.
        text = one_form([True, True], [[2, 2], [4, 0], [0, 4]])
        self.assertEqual(ask_of(text, between(0, 1)), [[2, 2, 0, 1, 1, 2, 1, 1, 2, 1, 1]])

    def test_several_best_at_the_share_nought_alone(self):
        text = one_form([True, True], [[1, 5], [2, 5], [3, 5], [0, 5]])
        self.assertEqual(ask_of(text, between(0, 1), between(1, 0)), [[1, 2, 0, 1, 1, 1]] * 2)

    def test_several_best_at_both_ends(self):
        text = one_form([True, True], [[1, 8], [2, 8], [6, 6], [8, 1], [8, 2], [8, 0]])
        self.assertEqual(ask_of(text, between(0, 1)), [[3, 1, 0, 1, 1, 3, 2, 1, 3, 2, 3, 4, 2, 3, 1, 1]])

    def test_measures_told_down(self):
        text = one_form([False, False], [[9, 0], [3, 3], [0, 9], [8, 8]])
        self.assertEqual(ask_of(text, between(0, 1)), [[3, 0, 0, 1, 1, 3, 1, 1, 3, 2, 3, 2, 2, 3, 1, 1]])
        text = one_form([True, False], [[9, 9], [3, 3], [0, 1]])
        self.assertEqual(ask_of(text, between(0, 1)), [[3, 2, 0, 1, 2, 5, 1, 2, 5, 1, 2, 0, 1, 2, 1, 1]])

    def test_values_with_a_minus(self):
        text = "measures a up, b down; item x : - 4, -2; item y : -1, 7; item z : -0, 8; item w : -9, -1;"
        self.assertEqual(ask_of(text, between(0, 1)), [[2, 0, 0, 1, 5, 7, 2, 5, 7, 1, 1]])
        text = one_form([True, True], [[-5, -1], [-1, -5], [-3, -4]])
        self.assertEqual(ask_of(text, between(0, 1)), [[2, 0, 0, 1, 1, 2, 1, 1, 2, 1, 1]])

    def test_the_greatest_and_least_values(self):
        text = one_form([True, True], [[1000, -1000], [-999, 1000]])
        self.assertEqual(ask_of(text, between(0, 1)), [[2, 1, 0, 1, 2000, 3999, 0, 2000, 3999, 1, 1]])
        text = one_form([True, False], [[1000, 1000], [-1000, -1000], [999, 999]])
        self.assertEqual(ask_of(text, between(0, 1)), [[2, 1, 0, 1, 1, 2, 0, 1, 2, 1, 1]])

    def test_ends_that_lie_close_together(self):
        text = one_form([True, True], [[0, 1000], [999, 1], [1000, 0]])
        self.assertEqual(ask_of(text, between(0, 1)), [[2, 0, 0, 1, 1, 2, 2, 1, 2, 1, 1]])
        text = one_form([True, True], [[0, 1000], [999, 2], [1000, 0]])
        self.assertEqual(ask_of(text, between(0, 1)), [[3, 0, 0, 1, 998, 1997, 1, 998, 1997, 2, 3, 2, 2, 3, 1, 1]])
        text = one_form([True, True], [[0, 999], [999, 0], [500, 500]])
        wanted = [3, 0, 0, 1, 499, 999, 2, 499, 999, 500, 999, 1, 500, 999, 1, 1]
        self.assertEqual(ask_of(text, between(0, 1)), [wanted])
        text = one_form([True, True], [[-1000, 1000], [1000, -999], [1, 0]])
        self.assertEqual(ask_of(text, between(0, 1)), [[3, 0, 0, 1, 1000, 2001, 2, 1000, 2001, 1, 2, 1, 1, 2, 1, 1]])

    def test_sixteen_items_with_a_piece_each(self):
        rows = [[i * (31 - i), (15 - i) * (16 + i)] for i in range(16)]
        told = ask_of(one_form([True, True], rows), between(0, 1))[0]
        pieces = pieces_told(told)
        self.assertEqual([piece[0] for piece in pieces], list(range(16)))
        self.assertEqual(told, told_pieces(pieces_of(rows, 0, 1)))

    def test_each_two_of_four_measures(self):
        ups, rows = [True, False, True, False], [[1, 2, 3, 4], [4, 3, 2, 1], [0, 0, 9, 9], [2, 1, 4, 2], [5, 5, 0, 3]]
        goods = goods_of(ups, rows)
        for m in range(4):
            for k in range(4):
                wanted = [-5] if m == k else told_pieces(pieces_of(goods, m, k))
                self.assertEqual(ask_of(one_form(ups, rows), between(m, k)), [wanted])

    def test_made_lists(self):
        many = {}
        for ups, rows in list(made_lists(200, 61, least_measures=2)) + list(made_bends(100, 62)):
            goods = goods_of(ups, rows)
            forth, back = ask_of(one_form(ups, rows), between(0, len(ups) - 1), between(len(ups) - 1, 0))
            self.assertEqual(forth, told_pieces(pieces_of(goods, 0, len(ups) - 1)))
            turned = [(item, 1 - end, 1 - start) for item, start, end in reversed(pieces_told(forth))]
            self.assertEqual(back, told_pieces(turned))
            many[forth[0]] = many.get(forth[0], 0) + 1
        self.assertTrue(all(many.get(number, 0) >= 5 for number in range(7)), many)


class Refused(unittest.TestCase):
    def test_no_list(self):
        self.assertEqual(ask(between(0, 1), between(-1, 0), between(0, 0), between(GREAT, -GREAT)), [[-1]] * 4)
        self.assertEqual(ask(load("measures a up, b up"), between(0, 1)), [[0, 3, 19], [-1]])

    def test_no_such_measure(self):
        told = ask_of(
            WORKED, between(-1, 0), between(0, -1), between(-1, 1), between(1, -1), between(2, 0), between(0, 2),
            between(2, 1), between(1, 2), between(GREAT, 0), between(0, GREAT), between(-GREAT, 1), between(1, -GREAT),
            between(-2, 0), between(0, -2),
        )
        self.assertEqual(told, [[-5]] * 14)

    def test_both_the_same(self):
        told = ask_of(WORKED, between(0, 0), between(1, 1), between(2, 2), between(-1, -1), between(GREAT, GREAT))
        self.assertEqual(told, [[-5]] * 5)

    def test_each_number_of_measures(self):
        for measures in (1, 2, 3, 4):
            for m in range(-2, 6):
                asked = [between(m, k) for k in range(-2, 6)]
                right = [0 <= m < measures and 0 <= k < measures and m != k for k in range(-2, 6)]
                told = ask_of(one_form([True] * measures, [[1] * measures]), *asked)
                self.assertEqual(told, [WHOLE if fine else [-5] for fine in right])

    def test_a_list_of_no_items(self):
        told = ask_of("measures a up, b up;", between(0, 2), between(-1, 0), between(1, 1))
        self.assertEqual(told, [[-5]] * 3)


if __name__ == "__main__":
    unittest.main()
