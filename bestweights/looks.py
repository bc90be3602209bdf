"""The best few items, found by few looks at lists that are sorted by each measure."""

from bestweights.order import in_order, scores_of, weighed


def column_of(goods, measure):
    """All items' good values by one measure."""
    return [good_values[measure] for good_values in goods]


class Search:
    """What a search looks at: the good values by each measure with a weight above 0, its weights, and its lists."""

    def __init__(self, goods, weights):
        weighing = [measure for measure, weight in enumerate(weights) if weight > 0]
        self.weights = [weights[measure] for measure in weighing]
        self.columns = [column_of(goods, measure) for measure in weighing]
        self.lists = [in_order(list(range(len(goods))), column) for column in self.columns]
        self.scores = scores_of(goods, weights)


def seen_items(search, depth):
    """The items that stand in some list as deep as told, or before."""
    seen = {}
    for items_sorted in search.lists:
        for item in items_sorted[:depth]:
            seen[item] = True
    return list(seen)


def limit_at(search, depth):
    """The limit at a depth from 1 on: no item that has not been seen has a greater score."""
    last_looked = []
    for column, items_sorted in zip(search.columns, search.lists):
        last_looked.append(column[items_sorted[depth - 1]])
    return weighed(last_looked, search.weights)


def may_stop(search, k, depth):
    """Whether one stops at a depth when one looks for the k best."""
    if k == 0 or depth == len(search.scores):
        return True
    if depth == 0:
        return False
    limit = limit_at(search, depth)
    sure = [item for item in seen_items(search, depth) if search.scores[item] > limit]
    return len(sure) >= k


def few_looks(goods, weights, k):
    """How deep one looks for the k best, how many looks these are, how many items are seen, and the first k of them."""
    search = Search(goods, weights)
    depth = 0
    while not may_stop(search, k, depth):
        depth += 1
    seen = seen_items(search, depth)
    best = in_order(seen, search.scores)[:k]
    return depth, depth * len(search.lists), len(seen), best
