"""Help for the tests: calls are written and asked, lists are made and put into words.

What is told here of scores, looks and shares is found in other ways than the program's, so that tests can compare.
"""

import random
from fractions import Fraction

from bestweights.items import answers

WORKED = (
    "measures price down, size up ; item a : 10, 5 ; item b : 8, 3 ;"
    " item c : 12, 9 ; item d : 12, 5 ; item e : 8, 3 ;"
)


def bytes_of(text):
    return [ord(sign) for sign in text]


def load(text):
    """A call of load; the text is a str (a sign for each byte) or a list of bytes."""
    row = bytes_of(text) if isinstance(text, str) else list(text)
    return [0, len(row)] + row


def scores(*weights):
    return [1, len(weights)] + list(weights)


def top(k, *weights):
    return [2, k, len(weights)] + list(weights)


def looks(k, *weights):
    return [3, k, len(weights)] + list(weights)


def rank(i, *weights):
    return [4, i, len(weights)] + list(weights)


def between(m, k):
    return [5, m, k]


def at(m, k, p, q):
    return [6, m, k, p, q]


def shares(i, m, k):
    return [7, i, m, k]


def ask(*calls):
    """Each call's answer, all calls being handed in as one list; that list must stay as it was."""
    handed = [number for call in calls for number in call]
    assert len(calls) <= 40 and len(handed) <= 17000, "more than may be handed in"
    before = list(handed)
    told = answers(handed)
    assert handed == before, "what was handed in has changed"
    assert isinstance(told, list)
    assert all(type(number) is int for number in told), "not all are whole numbers"
    split = []
    place = 0
    while place < len(told):
        split.append(told[place + 1:place + 1 + told[place]])
        place += 1 + told[place]
    assert place == len(told) and len(split) == len(calls), "the answers are not one for each call"
    return split


def ask_of(text, *calls):
    """The answers to calls on a list that must be right, as many at a time as there may be beside its load."""
    answered = []
    for place in range(0, len(calls), 39):
        told = ask(load(text), *calls[place:place + 39])
        assert told[0][0] == 1, told[0]
        answered += told[1:]
    return answered


def name_of(number):
    return "n" + str(number)


def one_form(ups, rows):
    """The one form of a list: for each measure whether up, for each item its values."""
    told = ", ".join(f"{name_of(m)} {'up' if up else 'down'}" for m, up in enumerate(ups))
    lines = [f"measures {told} ;\n"]
    for i, row in enumerate(rows):
        lines.append(f"item {name_of(i)} : {', '.join(str(value) for value in row)} ;\n")
    return "".join(lines)


def goods_of(ups, rows):
    return [[value if up else -value for up, value in zip(ups, row)] for row in rows]


def score(good, weights):
    return sum(g * w for g, w in zip(good, weights))


def order_of(goods, weights):
    """The items in order, found by taking the first of those left again and again."""
    left = list(range(len(goods)))
    order = []
    while left:
        most = max(score(goods[i], weights) for i in left)
        first = [i for i in left if score(goods[i], weights) == most][0]
        order.append(first)
        left.remove(first)
    return order


def rank_of(goods, i, weights):
    """An item's rank and how many items have the same score, counted in the row of all scores."""
    row = sorted((score(good, weights) for good in goods), reverse=True)
    own = score(goods[i], weights)
    return [row.index(own) + 1, row.count(own)]


def looks_by_words(goods, weights, k):
    """The answer of looks, step by step as the words tell it."""
    weighing = [m for m, weight in enumerate(weights) if weight > 0]
    lists = [sorted(range(len(goods)), key=lambda i: (-goods[i][m], i)) for m in weighing]
    depth, seen = 0, set()
    while k > 0 and depth < len(goods):
        depth += 1
        limit = 0
        for m, one_list in zip(weighing, lists):
            item = one_list[depth - 1]
            seen.add(item)
            limit += weights[m] * goods[item][m]
        if len([i for i in seen if score(goods[i], weights) > limit]) >= k:
            break
    best = sorted(seen, key=lambda i: (-score(goods[i], weights), i))[:k]
    return [depth, depth * len(lists), len(seen), len(best)] + best


def best_for(goods, m, k, share):
    """The items that are best for a share of m, and the other for k."""
    # Times the denominator, so that it goes by whole numbers.
    worths = [share.numerator * (good[m] - good[k]) + share.denominator * good[k] for good in goods]
    most = max(worths, default=None)
    return [i for i, worth in enumerate(worths) if worth == most]


def turning_shares(goods, m, k):
    """0, 1, and each share between them for which two items come to the same."""
    turning = {Fraction(0), Fraction(1)}
    for one in goods:
        for other in goods:
            turn = one[m] - one[k] - other[m] + other[k]
            if turn > 0 and 0 < other[k] - one[k] < turn:
                turning.add(Fraction(other[k] - one[k], turn))
    return sorted(turning)


def pieces_of(goods, m, k):
    """Each piece as (item, from, to): who is best halfway from one turning share to the next, joined if the same."""
    pieces = []
    turning = turning_shares(goods, m, k)
    for start, end in zip(turning, turning[1:]):
        best = best_for(goods, m, k, (start + end) / 2)
        if pieces and pieces[-1][0] == best[0]:
            start = pieces.pop()[1]
        pieces += [(item, start, end) for item in best[:1]]
    return pieces


def span_of(goods, i, m, k):
    """The least and the greatest share for which an item is best, as (least, greatest), or None."""
    best = [share for share in turning_shares(goods, m, k) if i in best_for(goods, m, k, share)]
    return (best[0], best[-1]) if best else None


def told_pieces(pieces):
    """The answer of between for pieces, each as (item, from, to)."""
    told = [len(pieces)]
    for item, start, end in pieces:
        told += [item, start.numerator, start.denominator, end.numerator, end.denominator]
    return told


def told_span(span):
    """The answer of shares for what span_of gives."""
    if span is None:
        return [0]
    return [1, span[0].numerator, span[0].denominator, span[1].numerator, span[1].denominator]


def pieces_told(answer):
    """The pieces, each as (item, from, to), that an answer of between tells; its form is looked at, too."""
    assert len(answer) == 1 + 5 * answer[0], answer
    pieces = []
    for place in range(1, len(answer), 5):
        item, *ends = answer[place:place + 5]
        pieces.append((item, exact(ends[0], ends[1]), exact(ends[2], ends[3])))
    return pieces


def span_told(answer):
    """The (least, greatest) that an answer of shares tells, or None; its form is looked at, too."""
    if answer == [0]:
        return None
    assert answer[0] == 1 and len(answer) == 5, answer
    return exact(answer[1], answer[2]), exact(answer[3], answer[4])


def exact(numerator, denominator):
    """The fraction, which must be told in lowest terms, the denominator above 0."""
    fraction = Fraction(numerator, denominator)
    assert (fraction.numerator, fraction.denominator) == (numerator, denominator), "not in lowest terms"
    return fraction


def beats(one, other):
    return all(a >= b for a, b in zip(one, other)) and any(a > b for a, b in zip(one, other))


def made_lists(count, seed, least_measures=1):
    """Lists made in a way that is the same each time: (ups, rows), with many alike values among them."""
    source = random.Random(seed)
    for _ in range(count):
        measures = source.randint(least_measures, 4)
        most = source.choice((1, 3, 10, 1000))
        ups = [source.random() < 0.5 for _ in range(measures)]
        rows = [
            [source.randint(-most, most) for _ in range(measures)]
            for _ in range(source.randint(0, 16))
        ]
        yield ups, rows


def made_bends(count, seed):
    """Lists like those of made_lists, of two measures, whose items lie along a bend: they have many pieces."""
    source = random.Random(seed)
    for _ in range(count):
        most, flat = source.choice(((6, 1), (12, 2), (31, 1), (900, 900)))
        ups = [source.random() < 0.5 for _ in range(2)]
        along = [source.randint(-most, most) for _ in range(source.randint(2, 16))]
        goods = [[x, most - x * x // flat + (source.random() < 0.2)] for x in along]
        yield ups, goods_of(ups, goods)


def made_weights(measures, source, least=0):
    """Weights from the least to 100, not all 0, small ones often."""
    most = source.choice((1, 3, 100))
    while True:
        weights = [source.randint(least, most) for _ in range(measures)]
        if any(weights):
            return weights
