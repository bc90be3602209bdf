"""A list of measures and items, read from its text."""

from bestweights.tokens import cut

MOST_BYTES = 4096
MOST_MEASURES = 4
MOST_ITEMS = 16
GREATEST_VALUE = 1000

# What is awaited, with each kind of token that is allowed there: what is awaited behind it.
NEXT_AWAITED = {
    ("list", "measures"): "measure's name",
    ("measure's name", "name"): "way",
    ("way", "up"): "measure's end",
    ("way", "down"): "measure's end",
    ("measure's end", ","): "measure's name",
    ("measure's end", ";"): "item or end",
    ("item or end", "item"): "item's name",
    ("item or end", "end"): "nothing",
    ("item's name", "name"): "colon",
    ("colon", ":"): "value",
    ("value", "-"): "number",
    ("value", "number"): "value's end",
    ("number", "number"): "value's end",
    ("value's end", ","): "value",
    ("value's end", ";"): "item or end",
}


class Listing:
    """A list: the measures' names and signs (1 for up, -1 for down), the items' names and good values."""

    def __init__(self):
        self.measure_names = []
        self.signs = []
        self.item_names = []
        self.goods = []


class Reading:
    """How far a text is read: the list till now, what is awaited, and a fault's code (0: none) and place."""

    def __init__(self):
        self.listing = Listing()
        self.awaited = "list"
        self.minus = False
        self.code = 0
        self.place = 0


def is_allowed(reading, token):
    """Whether a token may stand where it stands, however many measures and items there are."""
    if (reading.awaited, token.kind) not in NEXT_AWAITED:
        return False
    if reading.awaited == "value's end":
        listing = reading.listing
        all_told = len(listing.goods[-1]) == len(listing.signs)
        return all_told == (token.kind == ";")
    return True


def is_one_too_many(reading, token):
    """Whether an allowed token begins a measure or an item more than there may be."""
    listing = reading.listing
    if reading.awaited == "measure's name":
        return len(listing.measure_names) == MOST_MEASURES
    return token.kind == "item" and len(listing.item_names) == MOST_ITEMS


def is_told_before(reading, token):
    """Whether an allowed token is a name that an earlier measure has, or for an item's an earlier item."""
    if reading.awaited == "measure's name":
        return token.said in reading.listing.measure_names
    return reading.awaited == "item's name" and token.said in reading.listing.item_names


def fault_at(reading, token):
    """The fault's code at a token, the least one if there are several, or 0."""
    if not is_allowed(reading, token):
        return 3
    if is_one_too_many(reading, token):
        return 4
    if is_told_before(reading, token):
        return 5
    if token.kind == "number" and token.said > GREATEST_VALUE:
        return 7
    return 0


def take_value(reading, number):
    """Put a number, with the - that may stand before it, to the last item as its next good value."""
    listing = reading.listing
    good_values = listing.goods[-1]
    sign = listing.signs[len(good_values)]
    good_values.append(-sign * number if reading.minus else sign * number)
    reading.minus = False


def take(reading, token):
    """Take a token that has no fault into the list."""
    listing = reading.listing
    if reading.awaited == "measure's name":
        listing.measure_names.append(token.said)
    elif reading.awaited == "way":
        listing.signs.append(1 if token.kind == "up" else -1)
    elif reading.awaited == "item's name":
        listing.item_names.append(token.said)
        listing.goods.append([])
    elif token.kind == "-":
        reading.minus = True
    elif token.kind == "number":
        take_value(reading, token.said)
    reading.awaited = NEXT_AWAITED[(reading.awaited, token.kind)]


def put_fault(reading, code, place):
    """The reading, with its fault."""
    reading.code = code
    reading.place = place
    return reading


def read_list(text):
    """The reading of a whole text: its code is 0 if the text is a list that is right."""
    reading = Reading()
    if len(text) > MOST_BYTES:
        return put_fault(reading, 1, MOST_BYTES)
    tokens = cut(text)
    # A place without a token is told ahead of all faults of the order, wherever they stand.
    if tokens[-1].kind == "none":
        return put_fault(reading, 2, tokens[-1].place)
    for token in tokens:
        code = fault_at(reading, token)
        if code > 0:
            return put_fault(reading, code, token.place)
        take(reading, token)
    return reading
