import unittest

from tests.asking import BIGGEST, ask, back, chance, fairest, kept, last, many, tell, things, trust


class Chance(unittest.TestCase):
    def test_nothing_is_told(self):
        for n in range(2, 7):
            self.assertEqual(ask(things(n), chance(1, 2), chance(2, 1), chance(n, 1))[1:], [[1, 2]] * 3)

    def test_certain_and_never(self):
        told = [things(3), tell(1, 3, 1)]
        self.assertEqual(ask(*told, chance(3, 1), chance(1, 3))[2:], [[1, 1], [0, 1]])

    def test_certain_by_what_lies_between(self):
        told = [things(6), tell(1, 3, 1), tell(2, 1, 6)]
        self.assertEqual(ask(*told, chance(3, 6), chance(6, 3))[3:], [[1, 1], [0, 1]])

    def test_a_part_of_the_rows(self):
        told = [things(3), tell(1, 1, 2)]
        self.assertEqual(ask(*told, chance(1, 3), chance(3, 1), chance(2, 3), chance(3, 2))[2:],
                         [[2, 3], [1, 3], [1, 3], [2, 3]])

    def test_brought_to_lowest_terms(self):
        told = [things(6), tell(1, 1, 2)]
        self.assertEqual(ask(*told, many(), chance(1, 3), chance(3, 1), chance(3, 4))[2:],
                         [[360], [2, 3], [1, 3], [1, 2]])
        told = [things(5), tell(1, 1, 2), tell(1, 1, 3), tell(1, 4, 3)]
        self.assertEqual(ask(*told, many(), chance(1, 4), chance(2, 3), chance(2, 4), chance(4, 2), chance(5, 3))[4:],
                         [[25], [3, 5], [3, 5], [1, 5], [4, 5], [18, 25]])

    def test_what_is_set_aside_is_not_asked(self):
        told = [things(2), tell(1, 1, 2), tell(2, 2, 1), tell(3, 2, 1)]
        self.assertEqual(ask(*told, chance(1, 2), back(1), chance(1, 2))[4:], [[1, 1], [0], [0, 1]])


class ChanceRefused(unittest.TestCase):
    def test_no_such_thing(self):
        for x, y in ((0, 1), (1, 0), (4, 1), (1, 4), (0, 0), (4, 4), (BIGGEST, 1), (1, BIGGEST)):
            self.assertEqual(ask(things(3), tell(1, 1, 2), chance(x, y), kept(), many())[2:], [[-1], [1, 1], [3]])

    def test_the_same_thing(self):
        for x in (1, 2, 3):
            self.assertEqual(ask(things(3), tell(1, 1, 2), chance(x, x), kept(), many())[2:], [[-1], [1, 1], [3]])

    def test_one_thing_alone(self):
        self.assertEqual(ask(chance(1, 1), chance(1, 2)), [[-1], [-1]])


class Fairest(unittest.TestCase):
    def test_nothing_is_told(self):
        for n in range(2, 7):
            self.assertEqual(last(things(n), fairest()), [1, 2, 1, 2])

    def test_as_near_on_either_side_the_lower_x(self):
        self.assertEqual(last(things(3), tell(1, 1, 2), fairest()), [1, 3, 2, 3])
        self.assertEqual(last(things(3), tell(1, 2, 1), fairest()), [1, 3, 1, 3])

    def test_as_near_on_either_side_of_the_same_x_the_lower_y(self):
        self.assertEqual(last(things(3), tell(1, 2, 3), fairest()), [1, 2, 1, 3])
        self.assertEqual(last(things(3), tell(1, 3, 2), fairest()), [1, 2, 2, 3])

    def test_the_nearest_goes_before_lower_things(self):
        told = [things(4), tell(1, 1, 2), tell(1, 2, 3)]
        self.assertEqual(ask(*told, chance(1, 4), chance(2, 4), chance(3, 4), fairest())[3:],
                         [[3, 4], [1, 2], [1, 4], [2, 4, 1, 2]])

    def test_above_a_half_may_be_nearer_than_below_it(self):
        told = [things(4), tell(1, 3, 1), tell(1, 3, 4), tell(1, 2, 4)]
        self.assertEqual(ask(*told, chance(1, 2), chance(1, 4), chance(2, 3), fairest())[4:],
                         [[1, 5], [3, 5], [2, 5], [1, 4, 3, 5]])

    def test_below_a_half_may_be_nearer_than_above_it(self):
        told = [things(4), tell(1, 3, 2), tell(1, 3, 4), tell(1, 1, 4)]
        self.assertEqual(ask(*told, chance(1, 2), chance(1, 3), chance(2, 4), fairest())[4:],
                         [[4, 5], [2, 5], [3, 5], [1, 3, 2, 5]])

    def test_what_is_not_open_is_not_asked(self):
        told = [things(4), tell(1, 1, 2), tell(1, 1, 3), tell(2, 4, 1)]
        self.assertEqual(last(*told, fairest()), [2, 3, 1, 2])

    def test_the_lower_x_is_told_first_whatever_is_likely(self):
        told = [things(2), tell(1, 2, 1), back(1)]
        self.assertEqual(last(*told, fairest()), [1, 2, 1, 2])

    def test_the_last_question(self):
        told = [things(6), tell(1, 1, 2), tell(1, 2, 3), tell(1, 3, 4), tell(1, 4, 5), tell(1, 4, 6)]
        self.assertEqual(last(*told, fairest()), [5, 6, 1, 2])

    def test_what_is_set_aside_is_not_asked(self):
        told = [things(3), tell(1, 1, 2), tell(2, 2, 1)]
        self.assertEqual(ask(*told, fairest(), trust(2, 1, 3), fairest())[3:], [[1, 3, 2, 3], [1], [1, 3, 1, 3]])


class FairestRefused(unittest.TestCase):
    def test_one_thing(self):
        self.assertEqual(ask(fairest()), [[-3]])

    def test_all_is_certain(self):
        for n in range(2, 7):
            chain = [tell(1, x, x + 1) for x in range(1, n)]
            self.assertEqual(ask(things(n), *chain, fairest(), many(), back(1), fairest())[n:],
                             [[-3], [1], [0], ask(things(n), *chain[1:], fairest())[-1]])
