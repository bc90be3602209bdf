"""The promises 1 to 5, on many lists."""

import random
import unittest
from fractions import Fraction

from calling import (
    ask_of, at, beats, between, goods_of, looks, made_bends, made_lists, made_weights, one_form, pieces_told, rank,
    scores, shares, span_told, top,
)


class WhoBeatsStandsAhead(unittest.TestCase):
    """Promise 1."""

    def test_first_is_unbeaten_and_who_beats_has_the_greater_score(self):
        source = random.Random(41)
        beaten = 0
        for ups, rows in made_lists(200, 42):
            weights = made_weights(len(ups), source, least=1)
            text = one_form(ups, rows)
            told_scores, first = ask_of(text, scores(*weights), top(1, *weights))
            ranks = [told[1] for told in ask_of(text, *[rank(i, *weights) for i in range(len(rows))])]
            goods = goods_of(ups, rows)
            for i, one in enumerate(goods):
                for j, other in enumerate(goods):
                    if beats(one, other):
                        beaten += 1
                        self.assertGreater(told_scores[1 + i], told_scores[1 + j])
                        self.assertLess(ranks[i], ranks[j])
            if rows:
                self.assertFalse(any(beats(one, goods[first[1]]) for one in goods))
        self.assertGreater(beaten, 1000)

    def test_alike_by_all_measures_neither_is_ahead_but_by_number(self):
        told = ask_of("measures a up, b down; item x : 3, 4; item y : 3, 4;", scores(7, 9), top(2, 7, 9))
        self.assertEqual(told, [[2, -15, -15], [2, 0, 1]])

    def test_better_by_one_measure_alone(self):
        text = "measures a up, b down; item x : 3, 4; item y : 3, 3; item z : 4, 4;"
        told = ask_of(text, scores(1, 100), scores(100, 1), top(1, 1, 100), top(1, 100, 1))
        self.assertEqual(told, [[3, -397, -297, -396], [3, 296, 297, 396], [1, 1], [1, 2]])


class FewLookedForAreTheFirst(unittest.TestCase):
    """Promise 2."""

    def test_looks_and_top_find_the_same(self):
        source = random.Random(43)
        unseen = 0
        for ups, rows in made_lists(200, 44):
            weights = made_weights(len(ups), source)
            text = one_form(ups, rows)
            for k in range(17):
                found, first = ask_of(text, looks(k, *weights), top(k, *weights))
                self.assertEqual(found[3:], first)
                if found[2] < len(rows) and k > 0:
                    unseen += 1
        self.assertGreater(unseen, 300)

    def test_alike_items_that_are_not_seen(self):
        # Item 0 is no less than item 1 by score, and seen late: one may not stop before it.
        text = one_form([True, True], [[4, 4], [8, 0], [0, 8], [7, 1], [1, 7]])
        for k in range(1, 6):
            found, first = ask_of(text, looks(k, 1, 1), top(k, 1, 1))
            self.assertEqual(found[3:], first)
            self.assertEqual(first, [k] + list(range(k)))


def share_within(start, end):
    """A share between two others that at takes, with the least denominator that there is, or None."""
    for q in range(1, 1001):
        p = start.numerator * q // start.denominator + 1
        if Fraction(p, q) < end:
            return p, q
    return None


def lists_of_two_measures_or_more():
    return list(made_lists(150, 47, least_measures=2)) + list(made_bends(150, 48))


class PiecesAreExact(unittest.TestCase):
    """Promise 3."""

    def test_they_fill_all_shares(self):
        for ups, rows in lists_of_two_measures_or_more():
            pieces = pieces_told(ask_of(one_form(ups, rows), between(0, 1))[0])
            turning = [piece[1] for piece in pieces] + [piece[2] for piece in pieces[-1:]]
            self.assertEqual(turning[:1] + turning[-1:], [0, 1] if rows else [])
            for place, (_, start, end) in enumerate(pieces):
                self.assertLess(start, end)
                self.assertEqual(end, turning[place + 1])

    def test_within_a_piece_its_item_is_best_and_behind_it_no_more(self):
        asked = 0
        for ups, rows in lists_of_two_measures_or_more():
            text = one_form(ups, rows)
            pieces = pieces_told(ask_of(text, between(1, 0))[0])
            within = [share_within(start, end) for _, start, end in pieces]
            for place, share in enumerate(within):
                if share is None:
                    continue
                asked += 1
                best = ask_of(text, at(1, 0, share[0], share[1]))[0][1:]
                self.assertEqual(best[0], pieces[place][0])
                alike = [i for i, row in enumerate(rows) if row[:2] == rows[best[0]][:2]]
                self.assertEqual(best, alike)
                for other in pieces[:place] + pieces[place + 1:]:
                    self.assertNotIn(other[0], best)
        self.assertGreater(asked, 700)

    def test_for_each_share_of_small_denominators(self):
        small = sorted({Fraction(p, q) for q in range(1, 13) for p in range(q + 1)})
        for ups, rows in lists_of_two_measures_or_more():
            text = one_form(ups, rows)
            pieces = pieces_told(ask_of(text, between(0, 1))[0])
            told = ask_of(text, *[at(0, 1, share.numerator, share.denominator) for share in small])
            for share, best in zip(small, told):
                for item, start, end in pieces:
                    if start < share < end:
                        self.assertEqual(best[1], item)
                    self.assertEqual(item in best[1:], start <= share <= end)

    def test_at_an_end_the_items_of_both_pieces_are_best(self):
        for ups, rows in made_bends(100, 49):
            text = one_form(ups, rows)
            pieces = pieces_told(ask_of(text, between(0, 1))[0])
            for before, behind in zip(pieces, pieces[1:]):
                if before[2].denominator <= 1000:
                    best = ask_of(text, at(0, 1, before[2].numerator, before[2].denominator))[0][1:]
                    self.assertIn(before[0], best)
                    self.assertIn(behind[0], best)

    def test_no_items_no_pieces(self):
        self.assertEqual(ask_of("measures a up, b down;", between(0, 1)), [[0]])


class BestJustFromTheLeastToTheGreatest(unittest.TestCase):
    """Promise 4."""

    def test_at_and_shares_say_the_same(self):
        found = {}
        for ups, rows in lists_of_two_measures_or_more():
            text = one_form(ups, rows)
            spans = [span_told(told) for told in ask_of(text, *[shares(i, 0, 1) for i in range(len(rows))])]
            for share in self.shares_to_ask(spans):
                best = ask_of(text, at(0, 1, share.numerator, share.denominator))[0][1:]
                for i, span in enumerate(spans):
                    is_from_to = span is not None and span[0] <= share <= span[1]
                    self.assertEqual(i in best, is_from_to)
                    kind = (is_from_to, span is not None and span[0] == span[1])
                    found[kind] = found.get(kind, 0) + 1
        self.assertTrue(all(found[one, other] > 50 for one in (False, True) for other in (False, True)), found)

    def shares_to_ask(self, spans):
        """The ends told, and those hardly less or greater; some others."""
        asked = {Fraction(p, 7) for p in range(8)}
        for end in {end for span in spans if span is not None for end in span}:
            below = end.numerator * 1000 // end.denominator
            asked.update([end, Fraction(max(below - 1, 0), 1000), Fraction(min(below + 1, 1000), 1000)])
        return [share for share in sorted(asked) if share.denominator <= 1000]

    def test_a_piece_is_what_shares_tells_of_its_item(self):
        for ups, rows in lists_of_two_measures_or_more():
            text = one_form(ups, rows)
            pieces = pieces_told(ask_of(text, between(0, 1))[0])
            spans = [span_told(told) for told in ask_of(text, *[shares(i, 0, 1) for i in range(len(rows))])]
            for item, start, end in pieces:
                self.assertEqual(spans[item], (start, end))
            for i, span in enumerate(spans):
                if span is not None and span[0] < span[1]:
                    self.assertIn(span, [piece[1:] for piece in pieces if piece[0] <= i])


class TimesANumberLeavesTheOrder(unittest.TestCase):
    """Promise 5."""

    def test_all_weights_times_a_number(self):
        source = random.Random(45)
        for ups, rows in made_lists(200, 46):
            weights = made_weights(len(ups), source)
            times = source.randint(1, 100 // max(weights))
            greater = [weight * times for weight in weights]
            k = source.randint(0, 16)
            told = ask_of(
                one_form(ups, rows), top(k, *weights), top(k, *greater), looks(k, *weights), looks(k, *greater),
                scores(*weights), scores(*greater),
            )
            self.assertEqual(told[0], told[1])
            self.assertEqual(told[2], told[3])
            self.assertEqual([score * times for score in told[4][1:]], told[5][1:])
            ranks = ask_of(one_form(ups, rows), *[rank(i, *weights) for i in range(len(rows))])
            self.assertEqual(ranks, ask_of(one_form(ups, rows), *[rank(i, *greater) for i in range(len(rows))]))

    def test_from_one_to_a_hundred(self):
        text = "measures a up, b down; item x : 5, 9; item y : 1, 2; item z : 0, 4; item w : 3, 7;"
        first = ask_of(text, top(4, 1, 1))
        self.assertEqual(first, [[4, 1, 0, 2, 3]])
        for times in range(2, 101):
            self.assertEqual(ask_of(text, top(4, times, times)), first)


if __name__ == "__main__":
    unittest.main()
