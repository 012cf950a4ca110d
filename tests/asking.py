"""Calls written by name, and what is answered to them split call by call."""

from toldbelow.house import answers

BIGGEST = 4294967295


def things(n):
    return [0, n]


def tell(w, x, y):
    return [1, w, x, y]


def back(n):
    return [2, n]


def trust(a, b, c):
    return [3, a, b, c]


def kept():
    return [4]


def aside():
    return [5]


def why(n):
    return [6, n]


def below(x, y):
    return [7, x, y]


def many():
    return [8]


def nth(k):
    return [9, k]


def chance(x, y):
    return [10, x, y]


def fairest():
    return [11]


def best():
    return [12]


def hang(n):
    return [13, n]


def stretches():
    return [14]


def quiet(w):
    return [15, w]


def joined(calls):
    """The calls one behind another, as they are handed in."""
    return [number for call in calls for number in call]


def split(answered):
    """Each call's answer by itself."""
    parts = []
    place = 0
    while place < len(answered):
        end = place + 1 + answered[place]
        if answered[place] < 1 or end > len(answered):
            raise AssertionError(f"the counts in {answered} don't fit")
        parts.append(answered[place + 1:end])
        place = end
    return parts


def ask(*calls):
    """What a new house answers to each of these calls."""
    parts = split(answers(joined(calls)))
    if len(parts) != len(calls):
        raise AssertionError(f"{len(calls)} calls, but {len(parts)} answers")
    return parts


def last(*calls):
    """What a new house answers to the last of these calls."""
    return ask(*calls)[-1]
