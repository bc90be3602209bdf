"""load beside a second reader, written in another way, on many texts with and without faults."""

import random
import re
import unittest

from calling import ask, load, made_lists, one_form

GAP = re.compile(r"(?:[ \t\n]|#[^\n]*)*")
TOKEN = re.compile(r"[A-Za-z][A-Za-z0-9]*|[0-9]+|[,:;-]")
SPARE = [
    "measures", "item", "up", "down", "a", "n0", "n1", "abcdefghijklmnop", "abcdefghijklmnopq", "0", "00", "7",
    "1000", "1001", "1000000000", "1000000001", ",", ":", ";", "-", "#", "#x\n", "\n", "\t", "$", "\r",
]


class Fault(Exception):
    pass


def tokens_of(text):
    place = GAP.match(text, 0).end()
    found = []
    while place < len(text):
        match = TOKEN.match(text, place)
        if match is None:
            raise Fault(2, place)
        said = match.group()
        if said[0].isdigit() and (str(int(said)) != said or int(said) > 10 ** 9):
            raise Fault(2, place)
        if said[0].isalpha() and len(said) > 16:
            raise Fault(2, place)
        found.append((said, place))
        place = GAP.match(text, match.end()).end()
    return found + [("", len(text))]


class SecondReader:
    def __init__(self, text):
        if len(text) > 4096:
            raise Fault(1, 4096)
        self.tokens = tokens_of(text)

    def ahead(self):
        return self.tokens[0][0]

    def fault(self, code):
        raise Fault(code, self.tokens[0][1])

    def take(self, *allowed):
        if self.ahead() not in allowed:
            self.fault(3)
        return self.tokens.pop(0)[0]

    def take_name(self, names, most):
        name = self.ahead()
        if not name[:1].isalpha() or name in ("measures", "up", "down", "item"):
            self.fault(3)
        if len(names) == most:
            self.fault(4)
        if name in names:
            self.fault(5)
        names.append(self.tokens.pop(0)[0])

    def take_value(self):
        if self.ahead() == "-":
            self.take("-")
        if not self.ahead()[:1].isdigit():
            self.fault(3)
        if int(self.ahead()) > 1000:
            self.fault(7)
        self.tokens.pop(0)

    def read(self):
        measures, items = [], []
        self.take("measures")
        while True:
            self.take_name(measures, 4)
            self.take("up", "down")
            if self.take(",", ";") == ";":
                break
        while self.ahead() != "":
            if self.ahead() == "item" and len(items) == 16:
                self.fault(4)
            self.take("item")
            self.take_name(items, 17)
            self.take(":")
            for number in range(len(measures)):
                self.take_value()
                self.take(";" if number == len(measures) - 1 else ",")
        return [1, len(measures), len(items)]


def second_answer(text):
    try:
        return SecondReader(text).read()
    except Fault as fault:
        return [0] + list(fault.args)


def changed(text, source):
    """The text with some tokens, blanks or remarks left out, doubled, put in, or put in another's place."""
    parts = re.findall(r"[A-Za-z0-9]+|[^A-Za-z0-9]", text)
    for _ in range(source.randint(1, 3)):
        spot = source.randrange(len(parts) + 1)
        what = source.randrange(4)
        if what == 0:
            parts[spot:spot + 1] = []
        elif what == 1:
            parts[spot:spot + 1] = parts[spot:spot + 1] * 2
        elif what == 2:
            parts[spot:spot] = [source.choice(SPARE)]
        else:
            parts[spot:spot + 1] = [source.choice(SPARE)]
    return "".join(parts)


class BesideSecondReader(unittest.TestCase):
    def check(self, texts):
        """Twenty texts at a time, each with just the answer that the second reader has."""
        codes = set()
        for start in range(0, len(texts), 20):
            some = texts[start:start + 20]
            for text, told in zip(some, ask(*[load(text) for text in some])):
                self.assertEqual(told, second_answer(text), repr(text))
                codes.add(told[1] if told[0] == 0 else 0)
        return codes

    def test_changed_lists(self):
        source = random.Random(71)
        texts = [changed(one_form(ups, rows), source) for ups, rows in made_lists(4000, 72)]
        self.assertTrue(self.check(texts).issuperset((0, 2, 3, 5, 7)))

    def test_changed_lists_that_are_full_or_fuller(self):
        source = random.Random(75)
        texts = []
        for _ in range(400):
            measures = source.randint(3, 5)
            rows = [[source.randint(-9, 9) for _ in range(measures)] for _ in range(source.randint(15, 17))]
            text = one_form([True] * measures, rows)
            texts.append(text if source.random() < 0.3 else changed(text, source))
        self.assertTrue(self.check(texts).issuperset((0, 2, 3, 4)))

    def test_texts_of_any_tokens(self):
        source = random.Random(73)
        texts = []
        for _ in range(2000):
            tokens = source.choices(SPARE, k=source.randint(0, 6))
            texts.append("measures a up" + source.choice([";", ",", "; item n1 :"]) + " ".join(tokens))
        self.check(texts)

    def test_texts_cut_off(self):
        for ups, rows in made_lists(20, 74):
            text = one_form(ups, rows)
            self.check([text[:length] for length in range(len(text) + 1)])


if __name__ == "__main__":
    unittest.main()
