import unittest
from itertools import permutations, product

from tests.asking import ask, back, kept, last, many, stretches, tell, things, trust

TWO_AND_TWO = [things(4), tell(1, 1, 2), tell(1, 3, 4)]


def all_orders(n):
    """Each order of n things, as the pairs of which the first lies below the second."""
    pairs = list(permutations(range(1, n + 1), 2))
    for chosen in product((False, True), repeat=len(pairs)):
        order = {pair for pair, taken in zip(pairs, chosen) if taken}
        if all((y, x) not in order for x, y in order):
            if all((x, z) in order for x, y in order for other, z in order if y == other):
                yield frozenset(order)


def order_of(spans):
    """Which pairs lie below one another by their stretches."""
    return frozenset((x, y) for x, (begins, ends) in enumerate(spans, 1) for y, (later, end) in enumerate(spans, 1)
                     if ends < later)


class Stretches(unittest.TestCase):
    def test_nothing_is_told(self):
        for n in range(1, 7):
            self.assertEqual(last(things(n), stretches()), [1] + [1, 1] * n)

    def test_at_the_beginning(self):
        self.assertEqual(ask(stretches()), [[1, 1, 1]])

    def test_one_row_of_all_things(self):
        for n in range(2, 7):
            chain = [tell(1, x, x + 1) for x in range(1, n)]
            self.assertEqual(last(things(n), *chain, stretches()), [n] + [moment for x in range(1, n + 1)
                                                                         for moment in (x, x)])

    def test_one_row_of_all_things_downwards(self):
        told = [things(3), tell(1, 2, 1), tell(1, 3, 2)]
        self.assertEqual(last(*told, stretches()), [3, 3, 3, 2, 2, 1, 1])

    def test_a_thing_beside_a_row_lasts_all_the_time(self):
        told = [things(4), tell(1, 1, 2), tell(1, 2, 3)]
        self.assertEqual(last(*told, stretches()), [3, 1, 1, 2, 2, 3, 3, 1, 3])

    def test_equal_sets_are_taken_once(self):
        self.assertEqual(last(things(3), tell(1, 1, 2), tell(1, 1, 3), stretches()), [2, 1, 1, 2, 2, 2, 2])
        self.assertEqual(last(things(3), tell(1, 1, 3), tell(1, 2, 3), stretches()), [2, 1, 1, 1, 1, 2, 2])

    def test_things_that_last_beyond_a_moment(self):
        told = [things(4), tell(1, 1, 3), tell(2, 1, 4), tell(3, 2, 4)]
        self.assertEqual(last(*told, stretches()), [3, 1, 1, 1, 2, 2, 3, 3, 3])

    def test_all_that_lies_below_not_only_what_is_told_of_it(self):
        told = [things(5), tell(1, 1, 2), tell(1, 2, 3), tell(1, 1, 4), tell(1, 4, 3)]
        self.assertEqual(last(*told, stretches()), [3, 1, 1, 2, 2, 3, 3, 2, 2, 1, 3])

    def test_what_is_set_aside_is_not_taken_into_account(self):
        told = [things(3), tell(1, 1, 2), tell(2, 2, 1)]
        self.assertEqual(ask(*told, stretches(), trust(2, 1, 3), stretches())[3:],
                         [[2, 1, 1, 2, 2, 1, 2], [1], [2, 2, 2, 1, 1, 1, 2]])
        told = [*TWO_AND_TWO, tell(1, 2, 3), tell(2, 4, 1)]
        self.assertEqual(ask(*told, kept(), stretches())[5:], [[3, 1, 2, 3], [4, 1, 1, 2, 2, 3, 3, 4, 4]])

    def test_every_order_of_up_to_four_things(self):
        for n in (1, 2, 3, 4):
            # A moment at which nothing begins can be joined with the one before it, so n moments are enough.
            spans = [(begins, ends) for begins in range(1, n + 1) for ends in range(begins, n + 1)]
            with_stretches = {order_of(chosen) for chosen in product(spans, repeat=n)}
            orders = list(all_orders(n))
            self.assertEqual(len(orders), {1: 1, 2: 3, 3: 19, 4: 219}[n])
            for order in orders:
                answered = last(things(n), *[tell(1, x, y) for x, y in sorted(order)], stretches())
                if order not in with_stretches:
                    self.assertEqual(answered, [-6], order)
                    continue
                found = list(zip(answered[1::2], answered[2::2], strict=True))
                self.assertEqual(len(found), n)
                self.assertEqual(order_of(found), order)
                self.assertTrue(all(1 <= begins <= ends <= answered[0] for begins, ends in found), order)
                self.assertEqual({begins for begins, ends in found}, set(range(1, answered[0] + 1)))


class StretchesRefused(unittest.TestCase):
    def test_there_are_none(self):
        self.assertEqual(ask(*TWO_AND_TWO, stretches(), kept(), many())[3:], [[-6], [2, 1, 2], [6]])

    def test_there_are_none_of_six(self):
        told = [things(6), tell(1, 6, 1), tell(2, 1, 5), tell(3, 4, 2), tell(1, 2, 3)]
        self.assertEqual(last(*told, stretches()), [-6])

    def test_there_are_some_again(self):
        self.assertEqual(ask(*TWO_AND_TWO, stretches(), back(1), stretches())[3:],
                         [[-6], [0], [2, 1, 2, 1, 2, 1, 1, 2, 2]])
        self.assertEqual(ask(*TWO_AND_TWO, stretches(), tell(2, 1, 4), stretches())[3:],
                         [[-6], [3, 1, 0], [3, 1, 1, 2, 3, 1, 2, 3, 3]])
