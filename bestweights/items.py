"""The calls on one object, one behind another, and what they answer."""

from bestweights.lists import read_list
from bestweights.looks import few_looks
from bestweights.order import are_weights, in_order, rank_of, scores_of
from bestweights.shares import best_at, best_span, pairs_of, pieces_of

LOAD = 0
SCORES = 1
TOP = 2
LOOKS = 3
BETWEEN = 5
AT = 6
# For each call, load to shares, how many numbers stand between its own and its row, or the next call.
SINGLE_NUMBERS = (0, 0, 1, 1, 1, 2, 4, 3)
# The calls from load to rank have a row behind those, the others have none.
LAST_WITH_ROW = 4
MOST_WANTED = 16
GREATEST_DENOMINATOR = 1000


class Holder:
    """The object that the calls are on: it holds a list, or None."""

    def __init__(self):
        self.listing = None


def answer_load(holder, text):
    """What load answers; a list that is right is held from now on."""
    reading = read_list(text)
    if reading.code > 0:
        return [0, reading.code, reading.place]
    holder.listing = reading.listing
    return [1, len(reading.listing.signs), len(reading.listing.goods)]


def answer_scores(listing, weights):
    """What scores answers."""
    if not are_weights(weights, len(listing.signs)):
        return [-4]
    return [len(listing.goods)] + scores_of(listing.goods, weights)


def refusal_of_best(listing, k, weights):
    """The refusal of a call for the k best, or 0."""
    if not 0 <= k <= MOST_WANTED:
        return -3
    if not are_weights(weights, len(listing.signs)):
        return -4
    return 0


def answer_top(listing, k, weights):
    """What top answers."""
    refusal = refusal_of_best(listing, k, weights)
    if refusal < 0:
        return [refusal]
    scores = scores_of(listing.goods, weights)
    best = in_order(list(range(len(scores))), scores)[:k]
    return [len(best)] + best


def answer_looks(listing, k, weights):
    """What looks answers."""
    refusal = refusal_of_best(listing, k, weights)
    if refusal < 0:
        return [refusal]
    depth, looked, seen, best = few_looks(listing.goods, weights, k)
    return [depth, looked, seen, len(best)] + best


def is_item(listing, i):
    """Whether there is an item with this number."""
    return 0 <= i < len(listing.goods)


def are_two_measures(listing, m, k):
    """Whether there are measures with these numbers, and they are not the same."""
    measure_count = len(listing.signs)
    return 0 <= m < measure_count and 0 <= k < measure_count and m != k


def answer_rank(listing, i, weights):
    """What rank answers."""
    if not is_item(listing, i):
        return [-2]
    if not are_weights(weights, len(listing.signs)):
        return [-4]
    rank, same = rank_of(i, scores_of(listing.goods, weights))
    return [1, rank, same]


def answer_between(listing, m, k):
    """What between answers."""
    if not are_two_measures(listing, m, k):
        return [-5]
    pieces = pieces_of(pairs_of(listing.goods, m, k))
    told = [len(pieces)]
    for item, start, end in pieces:
        told.extend([item, start[0], start[1], end[0], end[1]])
    return told


def answer_at(listing, m, k, p, q):
    """What at answers."""
    if not are_two_measures(listing, m, k):
        return [-5]
    if not 1 <= q <= GREATEST_DENOMINATOR or not 0 <= p <= q:
        return [-6]
    best = best_at(pairs_of(listing.goods, m, k), p, q)
    return [len(best)] + best


def answer_shares(listing, i, m, k):
    """What shares answers."""
    if not is_item(listing, i):
        return [-2]
    if not are_two_measures(listing, m, k):
        return [-5]
    span = best_span(pairs_of(listing.goods, m, k), i)
    if span is None:
        return [0]
    least, greatest = span
    return [1, least[0], least[1], greatest[0], greatest[1]]


def answer_with_row(listing, call, singles, row):
    """What a call that has a row of weights answers while there is a list."""
    if call == SCORES:
        return answer_scores(listing, row)
    if call == TOP:
        return answer_top(listing, singles[0], row)
    if call == LOOKS:
        return answer_looks(listing, singles[0], row)
    return answer_rank(listing, singles[0], row)


def answer_without_row(listing, call, singles):
    """What a call that has no row answers while there is a list."""
    if call == BETWEEN:
        return answer_between(listing, singles[0], singles[1])
    if call == AT:
        return answer_at(listing, singles[0], singles[1], singles[2], singles[3])
    return answer_shares(listing, singles[0], singles[1], singles[2])


def answer_call(holder, call, singles, row):
    """What one call answers: its numbers, a refusal's alone."""
    if call == LOAD:
        return answer_load(holder, row)
    if holder.listing is None:
        return [-1]
    if call <= LAST_WITH_ROW:
        return answer_with_row(holder.listing, call, singles, row)
    return answer_without_row(holder.listing, call, singles)


def answers(calls):
    """What all calls answer, in order: of each how many numbers, and these."""
    holder = Holder()
    told = []
    place = 0
    while place < len(calls):
        call = calls[place]
        behind = place + 1 + SINGLE_NUMBERS[call]
        singles = calls[place + 1:behind]
        row = []
        if call <= LAST_WITH_ROW:
            row = calls[behind + 1:behind + 1 + calls[behind]]
            behind += 1 + len(row)
        answer = answer_call(holder, call, singles, row)
        told.append(len(answer))
        told.extend(answer)
        place = behind
    return told
