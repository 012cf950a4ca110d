import ast
import contextlib
import inspect
import io
import sys
import unittest
from pathlib import Path

import toldbelow.house
from tests.asking import (BIGGEST, aside, ask, back, below, best, chance, fairest, hang, joined, kept, many, nth, quiet,
                          stretches, tell, things, trust, why)
from toldbelow.house import answers

PLAIN = [0, 3, 1, 1, 1, 2, 1, 2, 2, 3, 1, 3, 3, 1, 4, 5, 6, 3, 7, 1, 3, 7, 3, 1, 7, 2, 2, 3, 3, 1, 2, 5, 2, 3, 5, 2, 3]
PLAIN_ANSWERS = [1, 0, 3, 1, 1, 0, 3, 2, 1, 0, 3, 3, 0, 1, 3, 2, 1, 2, 2, 1, 3, 3, 2, 1, 2, 1, 1, 1, 2, 1, 0,
                 1, 1, 2, 1, 2, 1, 0, 1, 0, 1, -2]
LIKELY = [0, 3, 1, 1, 1, 2, 1, 2, 2, 1, 8, 9, 1, 9, 3, 10, 1, 3, 10, 2, 1, 11, 12, 13, 1, 13, 2, 14, 15, 1, 15, 4, 5,
          14, 10, 1, 1, 0, 1, 11, 0, 4, 1, 3, 1, 2, 1, 3, 3, 4, 14]
LIKELY_ANSWERS = [1, 0, 3, 1, 1, 0, 3, 2, 0, 1, 1, 3, 3, 1, 3, 2, 1, -2, 2, 2, 3, 2, 0, 1, 4, 1, 3, 2, 3, 4, 1, 1, 2, 3,
                  2, 1, 2, 1, 0, 7, 2, 1, 1, 2, 2, 1, 2, 1, 1, 1, -1, 1, 0, 7, 2, 2, 2, 1, 1, 1, 2,
                  1, -1, 1, 0, 1, -3, 1, 0, 3, 1, 1, 0, 3, 2, 1, 0, 1, -6]
ALL_SIXTEEN = PLAIN + LIKELY
ALL_ANSWERS = PLAIN_ANSWERS + LIKELY_ANSWERS

STATE = [trust(2, 3, 1), things(4), tell(1, 1, 2), tell(2, 2, 3), tell(3, 3, 1), tell(2, 3, 4), tell(1, 4, 2), back(4)]
PROBE = [kept(), aside(), why(1), why(5), below(1, 2), below(2, 1), below(4, 2), below(1, 5),
         many(), nth(0), nth(1), chance(1, 2), chance(4, 1), fairest(), best(), hang(2), hang(3), stretches(),
         tell(1, 1, 3), tell(2, 4, 3), aside(), quiet(2), kept(), things(2), tell(1, 1, 2), tell(2, 2, 1), aside()]
REFUSED = [(things(0), -1), (things(7), -1), (things(BIGGEST), -1), (tell(0, 1, 2), -1), (tell(4, 1, 2), -1),
           (tell(1, 5, 2), -1), (tell(1, 1, 0), -1), (tell(3, 2, 2), -1), (tell(2, 2, 3), -4), (tell(1, 1, 2), -4),
           (back(0), -2), (back(4), -2), (back(6), -2), (why(4), -2), (why(2), -3), (why(BIGGEST), -2),
           (trust(1, 2, 2), -1), (trust(1, 2, 4), -1), (trust(0, 0, 0), -1), (below(0, 1), -1), (below(1, 5), -1),
           (nth(4), -2), (nth(BIGGEST), -2), (chance(0, 1), -1), (chance(1, 5), -1), (chance(3, 3), -1),
           (hang(0), -2), (hang(4), -2), (hang(6), -2), (hang(BIGGEST), -2), (quiet(0), -1), (quiet(4), -1),
           (quiet(BIGGEST), -1)]


class OnlyRead(list):
    """A list that any change of it, even for a while, is told of."""

    def refuse(self, *given, **named):
        raise AssertionError("the list that was handed in is changed")

    append = extend = insert = pop = remove = clear = sort = reverse = refuse
    __setitem__ = __delitem__ = __iadd__ = __imul__ = refuse


class HandedInAndGivenBack(unittest.TestCase):
    def test_number_by_number(self):
        self.assertEqual(answers(PLAIN), PLAIN_ANSWERS)
        self.assertEqual(answers(LIKELY), LIKELY_ANSWERS)

    def test_one_call_of_each(self):
        self.assertEqual(answers([0, 6]), [1, 0])
        self.assertEqual(answers([1, 1, 1, 2]), [1, -1])
        self.assertEqual(answers([2, 1]), [1, -2])
        self.assertEqual(answers([3, 3, 1, 2]), [1, 0])
        self.assertEqual(answers([4]), [1, 0])
        self.assertEqual(answers([5]), [1, 0])
        self.assertEqual(answers([6, 1]), [1, -2])
        self.assertEqual(answers([7, 1, 1]), [1, 0])
        self.assertEqual(answers([8]), [1, 1])
        self.assertEqual(answers([9, 0]), [1, 1])
        self.assertEqual(answers([10, 1, 1]), [1, -1])
        self.assertEqual(answers([11]), [1, -3])
        self.assertEqual(answers([12]), [2, 0, 1])
        self.assertEqual(answers([13, 1]), [1, -2])
        self.assertEqual(answers([14]), [3, 1, 1, 1])
        self.assertEqual(answers([15, 1]), [1, 0])

    def test_whole_numbers_are_int_never_true_or_false(self):
        for calls in (ALL_SIXTEEN, joined(STATE + PROBE), joined([call for call, number in REFUSED])):
            given_back = answers(calls)
            self.assertIs(type(given_back), list)
            self.assertEqual({type(number) for number in given_back}, {int})

    def test_the_biggest_number_in_each_place(self):
        for call in (things(1), tell(1, 1, 2), back(1), trust(1, 2, 3), why(1), below(1, 2), nth(0), chance(1, 2),
                     hang(1), quiet(1)):
            for place in range(1, len(call)):
                wrong = call[:place] + [BIGGEST] + call[place + 1:]
                self.assertLess(ask(things(2), tell(1, 2, 1), wrong)[2][0], 0)

    def test_sixty_calls_of_240_numbers(self):
        calls = [tell(1, 1, 1)] * 60
        self.assertEqual(answers(joined(calls)), [1, -1] * 60)
        calls = [things(6)] + [tell(1 + k % 3, 1 + k % 6, 1 + (k + 1) % 6) for k in range(6)] + [kept()] * 53
        self.assertEqual(ask(*calls)[-1], [5, 1, 2, 3, 4, 5])

    def test_what_is_handed_in_is_not_changed(self):
        calls = list(ALL_SIXTEEN)
        answers(calls)
        self.assertEqual(calls, ALL_SIXTEEN)
        self.assertEqual({type(number) for number in calls}, {int})

    def test_what_is_handed_in_is_not_changed_for_a_while_either(self):
        self.assertEqual(answers(OnlyRead(ALL_SIXTEEN)), ALL_ANSWERS)

    def test_what_is_given_back_is_another_list_each_time(self):
        first = answers(ALL_SIXTEEN)
        first.clear()
        self.assertEqual(answers(ALL_SIXTEEN), ALL_ANSWERS)

    def test_nothing_is_kept_from_one_time_to_the_next(self):
        calls = joined(STATE + PROBE)
        first = answers(calls)
        answers(ALL_SIXTEEN)
        answers(joined([trust(3, 2, 1), things(6), tell(1, 1, 6)]))
        self.assertEqual(answers(calls), first)
        self.assertEqual(ask(kept(), below(1, 2), things(2), tell(2, 1, 2), tell(1, 2, 1), aside()),
                         [[0], [-1], [0], [1, 1, 0], [2, 1, 1], [1, 1]])


class Refusals(unittest.TestCase):
    def test_each_is_alone_and_all_is_as_it_was(self):
        expected = ask(*STATE, *PROBE)
        for call, number in REFUSED:
            answered = ask(*STATE, call, *PROBE)
            self.assertEqual(answered[len(STATE)], [number], call)
            self.assertEqual(answered[:len(STATE)] + answered[len(STATE) + 1:], expected, call)

    def test_no_stretches_and_nothing_to_ask_are_alone_and_all_is_as_it_was(self):
        probe = [kept(), aside(), many(), nth(0), best(), hang(1), tell(3, 4, 1), kept(), quiet(1), kept()]
        two_and_two = [things(4), tell(1, 1, 2), tell(2, 3, 4), tell(3, 2, 1)]
        chain = [things(4), tell(1, 1, 2), tell(2, 2, 3), tell(3, 3, 4)]
        for state, call, number in ((two_and_two, stretches(), -6), (chain, fairest(), -3)):
            answered = ask(*state, call, *probe)
            self.assertEqual(answered[4], [number])
            self.assertEqual(answered[:4] + answered[5:], ask(*state, *probe))

    def test_twenty_told_is_alone_and_all_is_as_it_was(self):
        pairs = [(x, y) for x in range(1, 7) for y in range(1, 7) if x != y][:20]
        twenty = [things(6)] + [tell(1, x, y) for x, y in pairs]
        probe = [kept(), aside(), back(1), tell(1, 1, 2), kept(), aside()]
        answered = ask(*twenty, tell(2, 1, 2), *probe)
        self.assertEqual(answered[21], [-5])
        self.assertEqual(answered[:21] + answered[22:], ask(*twenty, *probe))


class Quietly(unittest.TestCase):
    def test_it_prints_and_reads_nothing(self):
        out, err, reading = io.StringIO(), io.StringIO(), sys.stdin
        sys.stdin = None
        try:
            with contextlib.redirect_stdout(out), contextlib.redirect_stderr(err):
                answers(ALL_SIXTEEN)
        finally:
            sys.stdin = reading
        self.assertEqual((out.getvalue(), err.getvalue()), ("", ""))

    def test_it_imports_nothing(self):
        for path in sorted(Path(toldbelow.house.__file__).parent.glob("*.py")):
            for node in ast.walk(ast.parse(path.read_text(encoding="utf-8"))):
                self.assertNotIsInstance(node, (ast.Import, ast.ImportFrom), path)
                self.assertNotIn(getattr(node, "id", ""), ("print", "open", "input", "__import__", "exec", "eval"))

    def test_a_long_list_is_gone_through_by_loops(self):
        chain = [tell(1, x, x + 1) for x in range(1, 6)] + [tell(2, 6, 1)]
        calls = joined([things(6)] + chain + [why(6)] * 53)
        before = sys.getrecursionlimit()
        sys.setrecursionlimit(len(inspect.stack()) + 30)
        try:
            given_back = answers(calls)
        finally:
            sys.setrecursionlimit(before)
        self.assertEqual(given_back[-7:], [6, 5, 1, 2, 3, 4, 5])

    def test_rows_are_gone_through_by_loops(self):
        before = sys.getrecursionlimit()
        sys.setrecursionlimit(len(inspect.stack()) + 30)
        try:
            given_back = answers(joined([things(6), nth(719), fairest(), best(), stretches(), many()]))
        finally:
            sys.setrecursionlimit(before)
        self.assertEqual(given_back[-2:], [1, 720])
