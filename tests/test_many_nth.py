import unittest

from tests.asking import BIGGEST, ask, back, kept, last, many, nth, quiet, tell, things, trust


class Many(unittest.TestCase):
    def test_nothing_is_told(self):
        for n, rows in ((1, 1), (2, 2), (3, 6), (4, 24), (5, 120), (6, 720)):
            self.assertEqual(last(things(n), many()), [rows])

    def test_at_the_beginning(self):
        self.assertEqual(ask(many()), [[1]])

    def test_one_told(self):
        self.assertEqual(last(things(6), tell(1, 6, 1), many()), [360])

    def test_one_row_alone(self):
        chain = [tell(1, x + 1, x) for x in range(1, 6)]
        self.assertEqual(last(things(6), *chain, many()), [1])

    def test_two_chains(self):
        chains = [tell(1, 1, 2), tell(2, 2, 3), tell(3, 4, 5), tell(1, 5, 6)]
        self.assertEqual(last(things(6), *chains, many()), [20])

    def test_the_same_told_twice_counts_once(self):
        self.assertEqual(last(things(3), tell(1, 1, 2), tell(2, 1, 2), many()), [3])

    def test_what_is_set_aside_is_not_asked(self):
        self.assertEqual(last(things(3), tell(1, 1, 2), tell(2, 2, 1), many()), [3])

    def test_it_follows_what_is_kept(self):
        told = [things(3), tell(1, 1, 2), tell(2, 2, 3), tell(3, 3, 1)]
        self.assertEqual(ask(*told, many(), back(1), many(), quiet(2), many(), things(2), many())[4:],
                         [[1], [0], [1], [1], [3], [0], [2]])


class Nth(unittest.TestCase):
    def test_all_rows_in_order(self):
        self.assertEqual(ask(things(3), *[nth(k) for k in range(6)])[1:],
                         [[1, 2, 3], [1, 3, 2], [2, 1, 3], [2, 3, 1], [3, 1, 2], [3, 2, 1]])

    def test_all_rows_that_may_be_in_order(self):
        told = [things(4), tell(1, 3, 1), tell(2, 3, 4)]
        self.assertEqual(ask(*told, *[nth(k) for k in range(9)])[3:],
                         [[2, 3, 1, 4], [2, 3, 4, 1], [3, 1, 2, 4], [3, 1, 4, 2], [3, 2, 1, 4], [3, 2, 4, 1],
                          [3, 4, 1, 2], [3, 4, 2, 1], [-2]])

    def test_the_first_and_the_last_and_the_one_behind_it(self):
        self.assertEqual(ask(things(6), nth(0), nth(1), nth(120), nth(718), nth(719), nth(720))[1:],
                         [[1, 2, 3, 4, 5, 6], [1, 2, 3, 4, 6, 5], [2, 1, 3, 4, 5, 6], [6, 5, 4, 3, 1, 2],
                          [6, 5, 4, 3, 2, 1], [-2]])

    def test_one_thing(self):
        self.assertEqual(ask(nth(0), nth(1), nth(BIGGEST)), [[1], [-2], [-2]])

    def test_one_row_alone(self):
        chain = [tell(1, x + 1, x) for x in range(1, 6)]
        self.assertEqual(ask(things(6), *chain, nth(0), nth(1))[6:], [[6, 5, 4, 3, 2, 1], [-2]])

    def test_behind_all_that_lie_below_not_only_what_is_told_of_it(self):
        told = [things(3), tell(1, 3, 2), tell(2, 2, 1)]
        self.assertEqual(ask(*told, nth(0), nth(1))[3:], [[3, 2, 1], [-2]])

    def test_what_is_set_aside_is_not_asked(self):
        told = [things(2), tell(1, 1, 2), tell(2, 2, 1)]
        self.assertEqual(ask(*told, nth(0), nth(1), trust(2, 1, 3), nth(0), nth(1))[3:],
                         [[1, 2], [-2], [1], [2, 1], [-2]])


class NthRefused(unittest.TestCase):
    def test_no_such_row(self):
        told = [things(3), tell(1, 1, 2)]
        for number in (3, 4, 5, 6, 720, 4294967293, BIGGEST):
            self.assertEqual(ask(*told, nth(number), nth(2), kept(), many())[2:], [[-2], [3, 1, 2], [1, 1], [3]])
