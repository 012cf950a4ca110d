import unittest

from tests.asking import BIGGEST, aside, ask, back, best, kept, last, many, quiet, tell, things, trust, why

TOLD = [things(3), tell(1, 1, 2), tell(2, 2, 3), tell(1, 3, 2), tell(3, 2, 1), tell(2, 1, 3)]


class Quiet(unittest.TestCase):
    def test_how_many_it_had_told_kept_or_set_aside(self):
        self.assertEqual(ask(*TOLD, aside(), quiet(1))[6:], [[2, 2, 4], [2]])
        self.assertEqual(ask(*TOLD, aside(), quiet(2))[6:], [[2, 2, 4], [2]])
        self.assertEqual(ask(*TOLD, aside(), quiet(3))[6:], [[2, 2, 4], [1]])

    def test_what_it_told_is_not_told_any_more(self):
        self.assertEqual(ask(*TOLD, quiet(1), kept(), aside(), why(1), why(3), back(1), best())[6:],
                         [[2], [3, 2, 4, 5], [0], [-2], [-2], [-2], [0, 2, 1, 3]])

    def test_what_was_set_aside_because_of_it_is_kept_then(self):
        self.assertEqual(ask(things(2), tell(1, 1, 2), tell(2, 2, 1), tell(3, 2, 1), quiet(1), kept(), aside())[4:],
                         [[1], [2, 2, 3], [0]])

    def test_who_told_nothing(self):
        self.assertEqual(ask(quiet(1), quiet(2), quiet(3)), [[0]] * 3)
        self.assertEqual(ask(things(2), tell(1, 1, 2), quiet(3), kept(), quiet(2), kept())[2:],
                         [[0], [1, 1], [0], [1, 1]])

    def test_a_second_time(self):
        self.assertEqual(ask(*TOLD, quiet(2), quiet(2), quiet(1), quiet(3), kept(), many())[6:],
                         [[2], [0], [2], [1], [0], [6]])

    def test_what_was_taken_back_is_not_counted(self):
        self.assertEqual(ask(*TOLD, back(1), quiet(1))[6:], [[2], [1]])

    def test_the_numbers_are_not_given_again(self):
        self.assertEqual(ask(things(2), tell(1, 1, 2), tell(2, 2, 1), quiet(2), tell(2, 2, 1), quiet(1), quiet(2),
                             tell(3, 1, 2), kept())[3:],
                         [[1], [3, 0, 1], [1], [1], [4, 1, 0], [1, 4]])

    def test_it_may_tell_the_same_again(self):
        self.assertEqual(ask(things(2), tell(1, 1, 2), quiet(1), tell(1, 1, 2), tell(1, 1, 2))[2:],
                         [[1], [2, 1, 0], [-4]])

    def test_it_is_trusted_as_before(self):
        told = [things(2), trust(2, 3, 1), tell(2, 1, 2), quiet(2), tell(1, 1, 2), tell(3, 2, 1), tell(2, 1, 2)]
        self.assertEqual(ask(*told, kept(), aside())[7:], [[2, 2, 4], [1, 3]])

    def test_more_can_be_told_then(self):
        pairs = [(x, y) for x in range(1, 7) for y in range(1, 7) if x != y]
        told = [things(6)] + [tell(1, x, y) for x, y in pairs[:19]] + [tell(2, 1, 2), tell(3, 1, 2)]
        self.assertEqual(ask(*told, quiet(2), tell(3, 1, 2), tell(3, 1, 3), quiet(1), tell(3, 1, 3))[21:],
                         [[-5], [1], [21, 1, 6], [-5], [19], [22, 1, 0]])

    def test_twenty_by_one(self):
        pairs = [(x, y) for x in range(1, 7) for y in range(1, 7) if x != y][:20]
        self.assertEqual(last(things(6), *[tell(3, x, y) for x, y in pairs], quiet(3)), [20])


class QuietRefused(unittest.TestCase):
    def test_no_such_one(self):
        for who in (0, 4, 5, BIGGEST):
            self.assertEqual(ask(*TOLD, quiet(who), kept(), aside())[6:], [[-1], [3, 1, 3, 5], [2, 2, 4]])
