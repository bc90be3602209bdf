"""A text, which is a list of bytes, cut into its tokens."""

BLANKS = (32, 9, 10)
LINE_FEED = 10
REMARK = 35
SIGNS = {44: ",", 58: ":", 59: ";", 45: "-"}
WORDS = ("measures", "up", "down", "item")
LONGEST_NAME = 16
GREATEST_NUMBER = 1000000000
MOST_DIGITS = 10


class Token:
    """A token: its kind, the place where it begins, the place behind it, and what it says.

    The kind is "name", "number", a word, a sign, "end" at the text's end, or "none" where no token begins.
    A name says its bytes, a number says itself, all others say nothing.
    """

    def __init__(self, kind, place, behind, said):
        self.kind = kind
        self.place = place
        self.behind = behind
        self.said = said


def is_letter(byte):
    """Whether a byte is one of A to Z, a to z."""
    return 65 <= byte <= 90 or 97 <= byte <= 122


def is_digit(byte):
    """Whether a byte is one of 0 to 9."""
    return 48 <= byte <= 57


def behind_gap(text, place):
    """The first place from the told one on that lies in no blank and in no remark."""
    in_remark = False
    while place < len(text):
        byte = text[place]
        if byte == LINE_FEED:
            in_remark = False
        elif byte == REMARK:
            in_remark = True
        elif byte not in BLANKS and not in_remark:
            return place
        place += 1
    return place


def behind_digits(text, place):
    """The first place from the told one on that holds no digit."""
    while place < len(text) and is_digit(text[place]):
        place += 1
    return place


def behind_letters(text, place):
    """The first place from the told one on that holds neither a letter nor a digit."""
    while place < len(text) and (is_letter(text[place]) or is_digit(text[place])):
        place += 1
    return place


def number_at(text, place):
    """The number that begins at a digit."""
    behind = behind_digits(text, place)
    digits = text[place:behind]
    # Thousands of digits may stand here: how many there are is looked at before their worth.
    if len(digits) > MOST_DIGITS or (digits[0] == 48 and len(digits) > 1):
        return Token("none", place, behind, None)
    worth = 0
    for digit in digits:
        worth = worth * 10 + digit - 48
    if worth > GREATEST_NUMBER:
        return Token("none", place, behind, None)
    return Token("number", place, behind, worth)


def name_at(text, place):
    """The name, or the word, that begins at a letter."""
    behind = behind_letters(text, place)
    spelled = text[place:behind]
    for word in WORDS:
        if spelled == [ord(letter) for letter in word]:
            return Token(word, place, behind, None)
    if len(spelled) > LONGEST_NAME:
        return Token("none", place, behind, None)
    return Token("name", place, behind, spelled)


def token_at(text, place):
    """The token that begins at a place outside blanks and remarks."""
    if place == len(text):
        return Token("end", place, place, None)
    byte = text[place]
    if byte in SIGNS:
        return Token(SIGNS[byte], place, place + 1, None)
    if is_digit(byte):
        return number_at(text, place)
    if is_letter(byte):
        return name_at(text, place)
    return Token("none", place, place, None)


def cut(text):
    """The tokens of a text, to its end or to the first place where none begins: the last one's kind tells which."""
    tokens = [token_at(text, behind_gap(text, 0))]
    while tokens[-1].kind not in ("end", "none"):
        place = behind_gap(text, tokens[-1].behind)
        tokens.append(token_at(text, place))
    return tokens
