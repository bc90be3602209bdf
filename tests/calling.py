"""Help for the tests: calls are written and asked, lists are made and put into words."""

import random

from bestweights.items import answers

WORKED = (
    "measures price down, size up ; item a : 10, 5 ; item b : 8, 3 ;"
    " item c : 12, 9 ; item d : 12, 5 ; item e : 8, 3 ;"
)


def bytes_of(text):
    return [ord(sign) for sign in text]


def load(text):
    """A call of load; the text is a str (a sign for each byte) or a list of bytes."""
    row = bytes_of(text) if isinstance(text, str) else list(text)
    return [0, len(row)] + row


def scores(*weights):
    return [1, len(weights)] + list(weights)


def top(k, *weights):
    return [2, k, len(weights)] + list(weights)


def looks(k, *weights):
    return [3, k, len(weights)] + list(weights)


def ask(*calls):
    """Each call's answer, all calls being handed in as one list; that list must stay as it was."""
    handed = [number for call in calls for number in call]
    before = list(handed)
    told = answers(handed)
    assert handed == before, "what was handed in has changed"
    assert isinstance(told, list)
    assert all(type(number) is int for number in told), "not all are whole numbers"
    split = []
    place = 0
    while place < len(told):
        split.append(told[place + 1:place + 1 + told[place]])
        place += 1 + told[place]
    assert place == len(told) and len(split) == len(calls), "the answers are not one for each call"
    return split


def ask_of(text, *calls):
    """The answers to calls on a list that must be right."""
    told = ask(load(text), *calls)
    assert told[0][0] == 1, told[0]
    return told[1:]


def name_of(number):
    return "n" + str(number)


def one_form(ups, rows):
    """The one form of a list: for each measure whether up, for each item its values."""
    told = ", ".join(f"{name_of(m)} {'up' if up else 'down'}" for m, up in enumerate(ups))
    lines = [f"measures {told} ;\n"]
    for i, row in enumerate(rows):
        lines.append(f"item {name_of(i)} : {', '.join(str(value) for value in row)} ;\n")
    return "".join(lines)


def goods_of(ups, rows):
    return [[value if up else -value for up, value in zip(ups, row)] for row in rows]


def score(good, weights):
    return sum(g * w for g, w in zip(good, weights))


def order_of(goods, weights):
    """The items in order, found by taking the first of those left again and again."""
    left = list(range(len(goods)))
    order = []
    while left:
        most = max(score(goods[i], weights) for i in left)
        first = [i for i in left if score(goods[i], weights) == most][0]
        order.append(first)
        left.remove(first)
    return order


def beats(one, other):
    return all(a >= b for a, b in zip(one, other)) and any(a > b for a, b in zip(one, other))


def made_lists(count, seed):
    """Lists made in a way that is the same each time: (ups, rows), with many alike values among them."""
    source = random.Random(seed)
    for _ in range(count):
        measures = source.randint(1, 4)
        most = source.choice((1, 3, 10, 1000))
        ups = [source.random() < 0.5 for _ in range(measures)]
        rows = [
            [source.randint(-most, most) for _ in range(measures)]
            for _ in range(source.randint(0, 16))
        ]
        yield ups, rows


def made_weights(measures, source, least=0):
    """Weights from the least to 100, not all 0, small ones often."""
    most = source.choice((1, 3, 100))
    while True:
        weights = [source.randint(least, most) for _ in range(measures)]
        if any(weights):
            return weights
