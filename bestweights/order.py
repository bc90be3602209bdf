"""Weights, scores, and items in order."""

GREATEST_WEIGHT = 100


def are_weights(numbers, measure_count):
    """Whether numbers are weights: one from 0 to 100 for each measure, and not all 0."""
    if len(numbers) != measure_count:
        return False
    for number in numbers:
        if not 0 <= number <= GREATEST_WEIGHT:
            return False
    return sum(numbers) > 0


def weighed(numbers, weights):
    """Each weight times its number, all together."""
    return sum([weight * number for weight, number in zip(weights, numbers)])


def scores_of(goods, weights):
    """Each item's score, from the items' good values."""
    return [weighed(good_values, weights) for good_values in goods]


def in_order(chosen, worths):
    """Chosen items by what each item is worth, the greater first, of alike ones the one with the lesser number."""
    return sorted(chosen, key=lambda item: (-worths[item], item))


def rank_of(item, scores):
    """An item's rank, 1 more than how many have a greater score, and how many have the same."""
    greater = [score for score in scores if score > scores[item]]
    return 1 + len(greater), scores.count(scores[item])
