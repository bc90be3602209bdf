"""The promises 1, 2 and 5, as far as they speak of scores, of the items in order and of few looks."""

import random
import unittest

from calling import ask_of, beats, goods_of, looks, made_lists, made_weights, one_form, scores, top


class WhoBeatsStandsAhead(unittest.TestCase):
    """Promise 1."""

    def test_first_is_unbeaten_and_who_beats_has_the_greater_score(self):
        source = random.Random(41)
        beaten = 0
        for ups, rows in made_lists(200, 42):
            weights = made_weights(len(ups), source, least=1)
            told_scores, first = ask_of(one_form(ups, rows), scores(*weights), top(1, *weights))
            goods = goods_of(ups, rows)
            for i, one in enumerate(goods):
                for j, other in enumerate(goods):
                    if beats(one, other):
                        beaten += 1
                        self.assertGreater(told_scores[1 + i], told_scores[1 + j])
            if rows:
                self.assertFalse(any(beats(one, goods[first[1]]) for one in goods))
        self.assertGreater(beaten, 1000)

    def test_alike_by_all_measures_neither_is_ahead_but_by_number(self):
        told = ask_of("measures a up, b down; item x : 3, 4; item y : 3, 4;", scores(7, 9), top(2, 7, 9))
        self.assertEqual(told, [[2, -15, -15], [2, 0, 1]])

    def test_better_by_one_measure_alone(self):
        text = "measures a up, b down; item x : 3, 4; item y : 3, 3; item z : 4, 4;"
        told = ask_of(text, scores(1, 100), scores(100, 1), top(1, 1, 100), top(1, 100, 1))
        self.assertEqual(told, [[3, -397, -297, -396], [3, 296, 297, 396], [1, 1], [1, 2]])


class FewLookedForAreTheFirst(unittest.TestCase):
    """Promise 2."""

    def test_looks_and_top_find_the_same(self):
        source = random.Random(43)
        unseen = 0
        for ups, rows in made_lists(200, 44):
            weights = made_weights(len(ups), source)
            text = one_form(ups, rows)
            for k in range(17):
                found, first = ask_of(text, looks(k, *weights), top(k, *weights))
                self.assertEqual(found[3:], first)
                if found[2] < len(rows) and k > 0:
                    unseen += 1
        self.assertGreater(unseen, 300)

    def test_alike_items_that_are_not_seen(self):
        # Item 0 is no less than item 1 by score, and seen late: one may not stop before it.
        text = one_form([True, True], [[4, 4], [8, 0], [0, 8], [7, 1], [1, 7]])
        for k in range(1, 6):
            found, first = ask_of(text, looks(k, 1, 1), top(k, 1, 1))
            self.assertEqual(found[3:], first)
            self.assertEqual(first, [k] + list(range(k)))


class TimesANumberLeavesTheOrder(unittest.TestCase):
    """Promise 5."""

    def test_all_weights_times_a_number(self):
        source = random.Random(45)
        for ups, rows in made_lists(200, 46):
            weights = made_weights(len(ups), source)
            times = source.randint(1, 100 // max(weights))
            greater = [weight * times for weight in weights]
            k = source.randint(0, 16)
            told = ask_of(
                one_form(ups, rows), top(k, *weights), top(k, *greater), looks(k, *weights), looks(k, *greater),
                scores(*weights), scores(*greater),
            )
            self.assertEqual(told[0], told[1])
            self.assertEqual(told[2], told[3])
            self.assertEqual([score * times for score in told[4][1:]], told[5][1:])

    def test_from_one_to_a_hundred(self):
        text = "measures a up, b down; item x : 5, 9; item y : 1, 2; item z : 0, 4; item w : 3, 7;"
        first = ask_of(text, top(4, 1, 1))
        self.assertEqual(first, [[4, 1, 0, 2, 3]])
        for times in range(2, 101):
            self.assertEqual(ask_of(text, top(4, times, times)), first)


if __name__ == "__main__":
    unittest.main()
