"""All eight calls in one list, in any order, beside a second reckoning of what each one answers."""

import random
import unittest
from fractions import Fraction

from bestweights.items import answers
from calling import (
    WORKED, ask, at, best_for, between, bytes_of, goods_of, load, looks, looks_by_words, made_bends, made_lists,
    one_form, order_of, pieces_of, rank, rank_of, score, scores, shares, span_of, told_pieces, told_span, top,
)

GREAT = 10 ** 18
FAR = (-GREAT, GREAT, 1 - GREAT, GREAT - 1, -1, -2, 17, 101, 1001)
WRONG_TEXTS = (("", 3, 0), ("$", 2, 0), ("measures a up; item b : 1001;", 7, 24), ("#" * 4097, 1, 4096))
REFUSED_FIRST = {
    "scores": ("weights",), "top": ("many", "weights"), "looks": ("many", "weights"), "rank": ("item", "weights"),
    "between": ("measures",), "at": ("measures", "share"), "shares": ("item", "measures"),
}
CALLS = {
    "load": load, "scores": scores, "top": top, "looks": looks, "rank": rank, "between": between, "at": at,
    "shares": shares,
}


def refusal(name, args, measures, items):
    """The first refusal of a call on a list of so many measures and items, or None."""
    first, last = args[:1], args[1 if name in ("top", "looks", "rank", "shares") else 0:]
    for what in REFUSED_FIRST[name]:
        if what == "many" and first[0] not in range(17):
            return -3
        if what == "item" and first[0] not in range(items):
            return -2
        if what == "weights" and not (len(last) == measures and set(last) <= set(range(101)) and any(last)):
            return -4
        if what == "measures" and not (set(last[:2]) <= set(range(measures)) and last[0] != last[1]):
            return -5
        if what == "share" and not (last[3] in range(1, 1001) and last[2] in range(last[3] + 1)):
            return -6
    return None


def answer_by_words(name, args, goods, measures):
    """What a call answers on a list, when the document's words are gone through by other ways than the program's."""
    refused = refusal(name, args, measures, len(goods))
    if refused is not None:
        return [refused]
    if name == "scores":
        return [len(goods)] + [score(good, args) for good in goods]
    if name == "top":
        best = order_of(goods, args[1:])[:args[0]]
        return [len(best)] + best
    if name == "looks":
        return looks_by_words(goods, args[1:], args[0])
    if name == "rank":
        return [1] + rank_of(goods, args[0], args[1:])
    if name == "between":
        return told_pieces(pieces_of(goods, *args))
    if name == "at":
        best = best_for(goods, args[0], args[1], Fraction(args[2], args[3]))
        return [len(best)] + best
    return told_span(span_of(goods, *args))


class Maker:
    """Makes lists of calls, and what they have to answer."""

    def __init__(self, seed):
        self.source = random.Random(seed)
        self.lists = list(made_lists(60, seed)) + list(made_bends(40, seed))

    def number(self, least, most):
        """A number that is mostly from the least to the most, and now and then far off."""
        return self.source.choice(FAR) if self.source.random() < 0.08 else self.source.randint(least, most)

    def args(self, name, measures, items):
        many = measures if self.source.random() < 0.9 else self.source.randint(0, 6)
        weights = [self.number(0, 3) for _ in range(many)]
        two = [self.number(0, measures - 1) for _ in range(2)]
        item = self.number(0, max(items - 1, 0))
        q = self.number(1, self.source.choice((6, 1000)))
        p = self.number(0, q if 0 < q <= 1001 else 1)
        return {
            "scores": weights, "top": [self.number(0, 16)] + weights, "looks": [self.number(0, 4)] + weights,
            "rank": [item] + weights, "between": two, "at": two + [p, q], "shares": [item] + two,
        }[name]

    def load(self):
        """A load and its answer, and the list that is held behind it (None, if that stays as it was)."""
        if self.source.random() < 0.3:
            text, code, place = self.source.choice(WRONG_TEXTS)
            return load(text), [0, code, place], None
        ups, rows = self.source.choice(self.lists)
        return load(one_form(ups, rows)), [1, len(ups), len(rows)], (ups, rows)

    def make(self, many):
        """So many calls, or fewer if they come to too many numbers, and their answers."""
        made, wanted = [], []
        held = None
        while len(made) < many and sum(len(call) for call in made) < 12000:
            name = self.source.choice(["load"] * (0 if made else 4) + list(CALLS))
            if name == "load":
                call, answer, loaded = self.load()
                held = loaded or held
            else:
                measures, items = (len(held[0]), len(held[1])) if held else (2, 2)
                args = self.args(name, measures, items)
                call = CALLS[name](*args)
                answer = answer_by_words(name, args, goods_of(*held), measures) if held else [-1]
            made.append(call)
            wanted.append(answer)
        return made, wanted


class AllCalls(unittest.TestCase):
    def test_worked_list_number_by_number(self):
        text = bytes_of(WORKED)
        calls = [0, len(text)] + text + [4, 0, 2, 1, 1, 5, 0, 1, 6, 0, 1, 3, 5, 7, 2, 0, 1, 7, 0, 0, 1, 7, 4, 0, 1]
        wanted = [3, 1, 2, 5, 3, 1, 2, 3, 11, 2, 2, 0, 1, 3, 5, 1, 3, 5, 1, 1, 4, 3, 1, 2, 4]
        wanted += [5, 1, 0, 1, 3, 5, 1, 0, 5, 1, 3, 5, 1, 1]
        self.assertEqual(answers(calls), wanted)

    def test_each_call_behind_each_other(self):
        # A call with a row behind one without, and the other way round: each begins just where the last one ends.
        each = {
            "scores": ([2, 1], [5, -15, -13, -15, -19, -13]), "top": ([1, 1, 1], [1, 2]), "load": ([WORKED], [1, 2, 5]),
            "looks": ([1, 1, 1], [3, 6, 5, 1, 2]), "rank": ([0, 1, 1], [1, 2, 3]), "at": ([0, 1, 3, 5], [3, 1, 2, 4]),
            "between": ([0, 1], [2, 2, 0, 1, 3, 5, 1, 3, 5, 1, 1]), "shares": ([2, 0, 1], [1, 0, 1, 3, 5]),
        }
        for name, (args, wanted) in each.items():
            for other, (others_args, others_wanted) in each.items():
                told = ask(load(WORKED), CALLS[name](*args), CALLS[other](*others_args))
                self.assertEqual(told, [[1, 2, 5], wanted, others_wanted])

    def test_each_refusal_is_one_number(self):
        calls = [5, 0, 1, 6, 0, 1, 1, 2, 7, 0, 0, 1, 4, 0, 0, 1, 0, 2, 0, 0, 3, 0, 0]
        self.assertEqual(answers(calls), [1, -1] * 7)

    def test_made_calls(self):
        maker = Maker(91)
        told = {}
        for many in list(range(1, 41)) * 10:
            made, wanted = maker.make(many)
            self.assertEqual(ask(*made), wanted)
            for call, answer in zip(made, wanted):
                kind = (call[0], min(answer[0], 0))
                told[kind] = told.get(kind, 0) + 1
        for kind in (
            (0, 0), (1, -1), (1, -4), (1, 0), (2, -1), (2, -3), (2, -4), (2, 0), (3, -1), (3, -3), (3, -4), (3, 0),
            (4, -1), (4, -2), (4, -4), (4, 0), (5, -1), (5, -5), (5, 0), (6, -1), (6, -5), (6, -6), (6, 0),
            (7, -1), (7, -2), (7, -5), (7, 0),
        ):
            self.assertGreater(told.get(kind, 0), 4, kind)

    def test_the_object_is_as_each_call_left_it(self):
        first, second = one_form([True, True], [[4, 0], [0, 4]]), one_form([True, True, True], [[1, 2, 3]])
        told = ask(
            between(0, 1), load(first), between(0, 1), load("$"), between(0, 1), rank(2, 1, 1), at(0, 1, 5, 4),
            shares(0, 1, 1), between(0, 2), shares(1, 0, 1), load(second), between(0, 2), shares(1, 0, 1),
            at(2, 1, 1, 9), load("measures a up;"), rank(0, 1), between(0, 1), scores(1),
        )
        halves = [2, 1, 0, 1, 1, 2, 0, 1, 2, 1, 1]
        self.assertEqual(told, [
            [-1], [1, 2, 2], halves, [0, 2, 0], halves, [-2], [-6], [-5], [-5], [1, 0, 1, 1, 2], [1, 3, 1],
            [1, 0, 0, 1, 1, 1], [-2], [1, 0], [1, 1, 0], [-2], [-5], [0],
        ])

    def test_far_numbers_wherever_a_number_may_be(self):
        for far in (-GREAT, GREAT):
            calls = [
                scores(far, 1), scores(1, far), top(far, 1, 1), top(1, far, 1), top(1, 1, far), looks(far, 1, 1),
                looks(1, far, 1), looks(1, 1, far), rank(far, 1, 1), rank(0, far, 1), rank(0, 1, far), between(far, 1),
                between(0, far), between(far, far), at(far, 1, 1, 2), at(0, far, 1, 2), at(0, 1, far, 2),
                at(0, 1, 1, far), at(0, 1, far, far), shares(far, 0, 1), shares(0, far, 1), shares(0, 0, far),
                shares(far, far, far),
            ]
            refused = [-4, -4, -3, -4, -4, -3, -4, -4, -2, -4, -4, -5, -5, -5, -5, -5, -6, -6, -6, -2, -5, -5, -2]
            told = ask(*calls, load(WORKED), *calls[:8], scores(1, 1))
            self.assertEqual(told[:23], [[-1]] * 23)
            self.assertEqual(told[24:32], [[number] for number in refused[:8]])
            self.assertEqual(ask(load(WORKED), *calls)[1:], [[number] for number in refused])

    def test_forty_calls_of_two_measures(self):
        rows = [[i * (31 - i), (15 - i) * (16 + i)] for i in range(16)]
        calls = [load(one_form([True, True], rows))]
        wanted = [[1, 2, 16]]
        for i in range(39):
            calls.append((between(0, 1), at(1, 0, i, 39), shares(i % 16, 0, 1))[i % 3])
            best = best_for(rows, 1, 0, Fraction(i, 39))
            wanted.append((
                told_pieces(pieces_of(rows, 0, 1)), [len(best)] + best, told_span(span_of(rows, i % 16, 0, 1)),
            )[i % 3])
        self.assertEqual(ask(*calls), wanted)

    def test_nothing_is_kept_from_one_time_to_the_next(self):
        calls = load(WORKED) + between(0, 1) + at(0, 1, 3, 5) + shares(2, 0, 1) + rank(0, 1, 1)
        first = answers(calls)
        wanted = list(first)
        first.clear()
        self.assertEqual(ask(between(0, 1), at(0, 1, 3, 5), shares(2, 0, 1), rank(0, 1, 1)), [[-1]] * 4)
        self.assertEqual(answers(calls), wanted)

    def test_what_is_handed_in_stays(self):
        calls = load(WORKED) + between(1, 0) + at(0, 1, 6, 10) + shares(4, 1, 0) + rank(3, 2, 5) + at(0, 1, GREAT, 1)
        before = list(calls)
        answers(calls)
        self.assertEqual(calls, before)


if __name__ == "__main__":
    unittest.main()
