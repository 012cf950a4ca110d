"""Many lists of calls, answered by a second program that follows the document word by word."""

import unittest
from fractions import Fraction
from functools import lru_cache
from itertools import combinations, permutations
from random import Random

from tests.asking import (aside, back, below, best, chance, fairest, hang, joined, kept, many, nth, quiet, split,
                          stretches, tell, things, trust, why)
from toldbelow.house import answers

NAMES = ["things", "tell", "back", "trust", "kept", "aside", "why", "is_below", "many", "nth", "chance", "fairest",
         "best", "hang", "stretches", "quiet"]


def pairs_below(told):
    """By the words' own two cases, till nothing is added any more."""
    pairs = {(low, high) for number, who, low, high in told}
    while True:
        more = {(low, top) for low, high in pairs for other, top in pairs if high == other}
        if more <= pairs:
            return frozenset(pairs)
        pairs |= more


@lru_cache(maxsize=None)
def rows_that_may_be(n, pairs):
    return sorted(row for row in permutations(range(1, n + 1))
                  if all(row.index(low) < row.index(high) for low, high in pairs))


@lru_cache(maxsize=None)
def part_ahead(x, y, n, pairs):
    rows = rows_that_may_be(n, pairs)
    return Fraction(sum(row.index(x) < row.index(y) for row in rows), len(rows))


def chains(start, end, told, length):
    """Each row of so many of told that leads from start up to end."""
    if length == 0:
        return [[]] if start == end else []
    return [[number] + rest for number, who, low, high in told if low == start
            for rest in chains(high, end, told, length - 1)]


class Words:
    def __init__(self):
        self.n, self.told, self.next_number, self.order = 1, [], 1, (1, 2, 3)

    def sift(self, told):
        keeping, setting_aside = [], []
        for one in sorted(told, key=lambda one: (self.order.index(one[1]), one[0])):
            ring = (one[3], one[2]) in pairs_below(keeping)
            (setting_aside if ring else keeping).append(one)
        return keeping, setting_aside

    def sifted(self):
        return self.sift(self.told)

    def pairs(self):
        return pairs_below(self.sifted()[0])

    def number_of_aside(self):
        return len(self.sifted()[1])

    def has(self, *given):
        return all(thing in range(1, self.n + 1) for thing in given)

    def answer(self, call):
        return getattr(self, NAMES[call[0]])(*call[1:])

    def things(self, n):
        if n not in range(1, 7):
            return [-1]
        self.n, self.told, self.next_number = n, [], 1
        return [0]

    def tell(self, w, x, y):
        if w not in (1, 2, 3) or not self.has(x, y) or x == y:
            return [-1]
        if (w, x, y) in [one[1:] for one in self.told]:
            return [-4]
        if len(self.told) == 20:
            return [-5]
        one = (self.next_number, w, x, y)
        self.told.append(one)
        self.next_number += 1
        return [one[0], int(one in self.sifted()[0]), self.number_of_aside()]

    def back(self, n):
        found = [one for one in self.told if one[0] == n]
        if not found:
            return [-2]
        self.told.remove(found[0])
        return [self.number_of_aside()]

    def trust(self, a, b, c):
        if {a, b, c} != {1, 2, 3}:
            return [-1]
        self.order = (a, b, c)
        return [self.number_of_aside()]

    def kept(self):
        return [len(self.sifted()[0])] + sorted(one[0] for one in self.sifted()[0])

    def aside(self):
        return [len(self.sifted()[1])] + sorted(one[0] for one in self.sifted()[1])

    def why(self, n):
        found = [one for one in self.told if one[0] == n]
        if not found:
            return [-2]
        keeping = self.sifted()[0]
        if found[0] in keeping:
            return [-3]
        number, who, x, y = found[0]
        before = [one for one in keeping if (self.order.index(one[1]), one[0]) < (self.order.index(who), number)]
        length = 1
        while not chains(y, x, before, length):
            length += 1
        return [length] + min(chains(y, x, before, length))

    def is_below(self, x, y):
        if not self.has(x, y):
            return [-1]
        return [1 if (x, y) in self.pairs() else 2 if (y, x) in self.pairs() else 0]

    def many(self):
        return [len(rows_that_may_be(self.n, self.pairs()))]

    def nth(self, k):
        rows = rows_that_may_be(self.n, self.pairs())
        return list(rows[k]) if k < len(rows) else [-2]

    def chance(self, x, y):
        if not self.has(x, y) or x == y:
            return [-1]
        part = part_ahead(x, y, self.n, self.pairs())
        return [part.numerator, part.denominator]

    def fairest(self):
        pairs = self.pairs()
        questions = [(abs(part_ahead(x, y, self.n, pairs) - Fraction(1, 2)), x, y)
                     for x, y in combinations(range(1, self.n + 1), 2) if (x, y) not in pairs and (y, x) not in pairs]
        if not questions:
            return [-3]
        distance, x, y = min(questions)
        return [x, y] + self.chance(x, y)

    def best(self):
        against, row = min((sum(row.index(y) < row.index(x) for number, who, x, y in self.told), row)
                           for row in permutations(range(1, self.n + 1)))
        return [against] + list(row)

    def hang(self, n):
        if n not in [one[0] for one in self.told]:
            return [-2]
        kept_then = self.sift([one for one in self.told if one[0] != n])[0]
        hanging = sorted(one[0] for one in self.sifted()[1] if one in kept_then)
        return [len(hanging)] + hanging

    def stretches(self):
        pairs = self.pairs()
        # Of a below b and c below d with neither a below d nor c below b each would end before the other begins.
        if any((a, d) not in pairs and (c, b) not in pairs for a, b in pairs for c, d in pairs):
            return [-6]
        own = {y: frozenset(x for x in range(1, self.n + 1) if (x, y) in pairs) for y in range(1, self.n + 1)}
        sets = set(own.values())
        answered = [len(sets)]
        for thing in range(1, self.n + 1):
            answered += [1 + sum(each < own[thing] for each in sets), sum(thing not in each for each in sets)]
        return answered

    def quiet(self, w):
        if w not in (1, 2, 3):
            return [-1]
        before = len(self.told)
        self.told = [one for one in self.told if one[1] != w]
        return [before - len(self.told)]


def some_calls(chosen):
    """A list of 60 calls of all sixteen, most of them tells, some of them refused."""
    n = chosen.choice((1, 2, 3, 4, 5, 6, 6, 6))
    calls = [things(n)]
    while len(calls) < 60:
        number = chosen.randint(0, 26)
        x, y = chosen.randint(1, n), chosen.randint(1, n)
        calls.append(chosen.choices(
            [tell(chosen.randint(1, 3), x, y), back(number), why(number), below(x, y), kept(), aside(),
             trust(*chosen.sample((1, 2, 3), 3)), trust(1, 2, chosen.randint(0, 4)),
             tell(chosen.randint(0, 4), chosen.randint(0, 7), y), below(x, chosen.randint(0, 7)),
             things(chosen.choice((0, 7, n))), many(), nth(chosen.randint(0, chosen.choice((3, 30, 720)))),
             chance(x, y), chance(x, chosen.randint(0, 7)), fairest(), best(), hang(number), stretches(),
             quiet(chosen.randint(0, 4))],
            (24, 3, 5, 3, 2, 2, 2, 1, 1, 1, 0.5, 3, 4, 4, 1, 4, 3, 6, 4, 0.7))[0])
    return calls


def calls_that_ask_why(chosen):
    """Rings of up to six, and why for each number that is told."""
    calls = [things(6), trust(*chosen.sample((1, 2, 3), 3))]
    for number in range(1, 21):
        x = chosen.randint(1, 6)
        y = (x + chosen.choice((0, 0, 0, 1, 2))) % 6 + 1
        calls.append(tell(chosen.randint(1, 3), x, y))
    return calls + [why(number) for number in range(1, 21)] + [kept(), aside()]


def calls_with_twenty_told(chosen):
    """Six things, twenty told of them, and then all that can be asked."""
    words = [(w, x, y) for w in (1, 2, 3) for x, y in permutations(range(1, 7), 2)]
    calls = [things(6)] + [tell(*each) for each in chosen.sample(words, 20)]
    calls += [hang(number) for number in range(1, 21)]
    calls += [many(), nth(0), nth(1), chance(1, 2), fairest(), best(), stretches(), tell(1, 1, 2)]
    calls += [trust(*chosen.sample((1, 2, 3), 3)), many(), best(), stretches(), quiet(chosen.randint(1, 3))]
    return calls + [many(), nth(1), chance(6, 5), fairest(), best(), stretches()]


def calls_that_find_out(chosen):
    """Six things, of which little is told, so that much stays open; each time it is asked what is likely."""
    calls = [things(6)]
    for number in range(1, 10):
        x, y = chosen.sample(range(1, 7), 2)
        calls += [tell(chosen.randint(1, 3), x, y), fairest(), chance(*chosen.sample(range(1, 7), 2)),
                  nth(chosen.randint(0, 720 >> number)), stretches(), best()]
    return calls + [many(), quiet(2), many(), fairest(), stretches()]


class ByTheWords(unittest.TestCase):
    def compare(self, make_calls, how_many):
        """Each call's name with each refusal it had among these lists, or with 0 where it was answered."""
        seen = set()
        for seed in range(how_many):
            calls = make_calls(Random(seed))
            words = Words()
            expected = [words.answer(call) for call in calls]
            handed_in = joined(calls)
            before = list(handed_in)
            self.assertLessEqual(len(calls), 60)
            self.assertLessEqual(len(handed_in), 240)
            given_back = answers(handed_in)
            self.assertEqual(split(given_back), expected, f"seed {seed}")
            self.assertEqual(answers(handed_in), given_back, f"seed {seed}")
            self.assertEqual(handed_in, before, f"seed {seed}")
            seen.update((NAMES[call[0]], min(answered[0], 0)) for call, answered in zip(calls, expected))
        return seen

    def test_all_calls(self):
        seen = self.compare(some_calls, 150)
        self.assertEqual({name for name, refusal in seen if refusal == 0}, set(NAMES))
        self.assertEqual({each for each in seen if each[1] < 0},
                         {("things", -1), ("tell", -1), ("tell", -4), ("tell", -5), ("back", -2), ("why", -2),
                          ("why", -3), ("trust", -1), ("is_below", -1), ("nth", -2), ("chance", -1), ("fairest", -3),
                          ("hang", -2), ("stretches", -6), ("quiet", -1)})

    def test_why(self):
        self.compare(calls_that_ask_why, 150)

    def test_twenty_told(self):
        self.compare(calls_with_twenty_told, 80)

    def test_finding_out(self):
        self.compare(calls_that_find_out, 50)
