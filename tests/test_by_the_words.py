"""Many lists of calls, answered by a second program that follows the document word by word."""

import unittest
from random import Random

from tests.asking import aside, ask, back, below, kept, tell, things, trust, why


def lies_below(x, y, told):
    """By the words' own two cases, for all pairs till nothing is added any more."""
    pairs = {(low, high) for number, who, low, high in told}
    while True:
        more = {(low, top) for low, high in pairs for other, top in pairs if high == other}
        if more <= pairs:
            return (x, y) in pairs
        pairs |= more


def chains(start, end, told, length):
    """Each row of so many of told that leads from start up to end."""
    if length == 0:
        return [[]] if start == end else []
    return [[number] + rest for number, who, low, high in told if low == start
            for rest in chains(high, end, told, length - 1)]


class Words:
    def __init__(self):
        self.n, self.told, self.next_number, self.order = 1, [], 1, (1, 2, 3)

    def sifted(self):
        keeping, setting_aside = [], []
        for one in sorted(self.told, key=lambda one: (self.order.index(one[1]), one[0])):
            ring = lies_below(one[3], one[2], keeping)
            (setting_aside if ring else keeping).append(one)
        return keeping, setting_aside

    def number_of_aside(self):
        return len(self.sifted()[1])

    def answer(self, call):
        names = ["things", "tell", "back", "trust", "kept", "aside", "why", "is_below"]
        return getattr(self, names[call[0]])(*call[1:])

    def things(self, n):
        if n not in range(1, 7):
            return [-1]
        self.n, self.told, self.next_number = n, [], 1
        return [0]

    def tell(self, w, x, y):
        if w not in (1, 2, 3) or x not in range(1, self.n + 1) or y not in range(1, self.n + 1) or x == y:
            return [-1]
        if (w, x, y) in [one[1:] for one in self.told]:
            return [-4]
        if len(self.told) == 20:
            return [-5]
        one = (self.next_number, w, x, y)
        self.told.append(one)
        self.next_number += 1
        return [one[0], int(one in self.sifted()[0]), self.number_of_aside()]

    def back(self, n):
        found = [one for one in self.told if one[0] == n]
        if not found:
            return [-2]
        self.told.remove(found[0])
        return [self.number_of_aside()]

    def trust(self, a, b, c):
        if {a, b, c} != {1, 2, 3}:
            return [-1]
        self.order = (a, b, c)
        return [self.number_of_aside()]

    def kept(self):
        return [len(self.sifted()[0])] + sorted(one[0] for one in self.sifted()[0])

    def aside(self):
        return [len(self.sifted()[1])] + sorted(one[0] for one in self.sifted()[1])

    def why(self, n):
        found = [one for one in self.told if one[0] == n]
        if not found:
            return [-2]
        keeping = self.sifted()[0]
        if found[0] in keeping:
            return [-3]
        number, who, x, y = found[0]
        before = [one for one in keeping if (self.order.index(one[1]), one[0]) < (self.order.index(who), number)]
        length = 1
        while not chains(y, x, before, length):
            length += 1
        return [length] + min(chains(y, x, before, length))

    def is_below(self, x, y):
        if x not in range(1, self.n + 1) or y not in range(1, self.n + 1):
            return [-1]
        keeping = self.sifted()[0]
        return [1 if lies_below(x, y, keeping) else 2 if lies_below(y, x, keeping) else 0]


def some_calls(chosen):
    """A list of 60 calls, most of them tells, some of them refused."""
    n = chosen.choice((2, 3, 4, 5, 6, 6, 6))
    calls = [things(n)]
    while len(calls) < 60:
        number = chosen.randint(0, 26)
        x, y = chosen.randint(1, n), chosen.randint(1, n)
        calls.append(chosen.choices(
            [tell(chosen.randint(1, 3), x, y), back(number), why(number), below(x, y), kept(), aside(),
             trust(*chosen.sample((1, 2, 3), 3)), trust(1, 2, chosen.randint(0, 4)),
             tell(chosen.randint(0, 4), chosen.randint(0, 7), y), below(x, chosen.randint(0, 7)),
             things(chosen.choice((0, 7, n)))],
            (30, 4, 10, 6, 2, 2, 3, 1, 1, 1, 0.5))[0])
    return calls


def calls_that_ask_why(chosen):
    """Rings of up to six, and why for each number that is told."""
    calls = [things(6), trust(*chosen.sample((1, 2, 3), 3))]
    for number in range(1, 21):
        x = chosen.randint(1, 6)
        y = (x + chosen.choice((0, 0, 0, 1, 2))) % 6 + 1
        calls.append(tell(chosen.randint(1, 3), x, y))
    return calls + [why(number) for number in range(1, 21)] + [kept(), aside()]


class ByTheWords(unittest.TestCase):
    def compare(self, make_calls, how_many):
        for seed in range(how_many):
            calls = make_calls(Random(seed))
            words = Words()
            self.assertEqual(ask(*calls), [words.answer(call) for call in calls], f"seed {seed}")

    def test_all_calls(self):
        self.compare(some_calls, 150)

    def test_why(self):
        self.compare(calls_that_ask_why, 150)
