"""The calls on one object, one behind another, and what they answer."""

from bestweights.lists import read_list
from bestweights.looks import few_looks
from bestweights.order import are_weights, in_order, scores_of

LOAD = 0
SCORES = 1
TOP = 2
# For each call, load to looks, how many numbers stand between its own and the length of its row.
SINGLE_NUMBERS = (0, 0, 1, 1)
MOST_WANTED = 16


class Holder:
    """The object that the calls are on: it holds a list, or None."""

    def __init__(self):
        self.listing = None


def answer_load(holder, text):
    """What load answers; a list that is right is held from now on."""
    reading = read_list(text)
    if reading.code > 0:
        return [0, reading.code, reading.place]
    holder.listing = reading.listing
    return [1, len(reading.listing.signs), len(reading.listing.goods)]


def answer_scores(listing, weights):
    """What scores answers."""
    if not are_weights(weights, len(listing.signs)):
        return [-4]
    return [len(listing.goods)] + scores_of(listing.goods, weights)


def refusal_of_best(listing, k, weights):
    """The refusal of a call for the k best, or 0."""
    if not 0 <= k <= MOST_WANTED:
        return -3
    if not are_weights(weights, len(listing.signs)):
        return -4
    return 0


def answer_top(listing, k, weights):
    """What top answers."""
    refusal = refusal_of_best(listing, k, weights)
    if refusal < 0:
        return [refusal]
    scores = scores_of(listing.goods, weights)
    best = in_order(list(range(len(scores))), scores)[:k]
    return [len(best)] + best


def answer_looks(listing, k, weights):
    """What looks answers."""
    refusal = refusal_of_best(listing, k, weights)
    if refusal < 0:
        return [refusal]
    depth, looked, seen, best = few_looks(listing.goods, weights, k)
    return [depth, looked, seen, len(best)] + best


def answer_call(holder, call, singles, row):
    """What one call answers: its numbers, a refusal's alone."""
    if call == LOAD:
        return answer_load(holder, row)
    listing = holder.listing
    if listing is None:
        return [-1]
    if call == SCORES:
        return answer_scores(listing, row)
    if call == TOP:
        return answer_top(listing, singles[0], row)
    return answer_looks(listing, singles[0], row)


def answers(calls):
    """What all calls answer, in order: of each how many numbers, and these."""
    holder = Holder()
    told = []
    place = 0
    while place < len(calls):
        call = calls[place]
        length_place = place + 1 + SINGLE_NUMBERS[call]
        behind = length_place + 1 + calls[length_place]
        singles = calls[place + 1:length_place]
        row = calls[length_place + 1:behind]
        answer = answer_call(holder, call, singles, row)
        told.append(len(answer))
        told.extend(answer)
        place = behind
    return told
