"""Two measures against each other: which item is best for which share, with exact ends.

A pair is an item's good values by the two measures; the share is for the first, 1 less it for the second.
A share is a numerator and a denominator above 0, in lowest terms, so that equal shares are the same tuple.
"""

from bestweights.order import weighed


def pairs_of(goods, first, second):
    """Each item's good values by two measures."""
    return [(good_values[first], good_values[second]) for good_values in goods]


def share_of(numerator, denominator):
    """A share from a numerator not below 0 and a denominator above 0."""
    divisor, rest = denominator, numerator
    while rest > 0:
        divisor, rest = rest, divisor % rest
    return (numerator // divisor, denominator // divisor)


def is_less(share, other):
    """Whether a share is less than another one."""
    return share[0] * other[1] < other[0] * share[1]


def span_against(pair, other):
    """The least and the greatest share for which a pair comes to no less than another one, or None."""
    more_by_first = pair[0] - other[0]
    more_by_second = pair[1] - other[1]
    if more_by_first < 0 and more_by_second < 0:
        return None
    if more_by_second < 0:
        return share_of(-more_by_second, more_by_first - more_by_second), (1, 1)
    if more_by_first < 0:
        return (0, 1), share_of(more_by_second, more_by_second - more_by_first)
    return (0, 1), (1, 1)


def best_span(pairs, item):
    """The least and the greatest share for which an item is best, or None if it is for none."""
    least = (0, 1)
    greatest = (1, 1)
    for other in pairs:
        span = span_against(pairs[item], other)
        if span is None:
            return None
        if is_less(least, span[0]):
            least = span[0]
        if is_less(span[1], greatest):
            greatest = span[1]
    if is_less(greatest, least):
        return None
    return least, greatest


def pieces_of(pairs):
    """Each piece, from the share 0 to the share 1: its item, the share from which it is, and to which."""
    found = {}
    for item in range(len(pairs)):
        span = best_span(pairs, item)
        if span is not None and span[0] != span[1]:
            # Only items with the same pair share a piece: the first one, with the least number, keeps it.
            found.setdefault(span[0], (item, span[0], span[1]))
    pieces = []
    share = (0, 1)
    while share in found:
        pieces.append(found[share])
        share = found[share][2]
    return pieces


def best_at(pairs, numerator, denominator):
    """The items that are best for the share that is told by a numerator and a denominator."""
    worths = [weighed(pair, (numerator, denominator - numerator)) for pair in pairs]
    most = max(worths, default=0)
    return [item for item, worth in enumerate(worths) if worth == most]
