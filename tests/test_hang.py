import unittest

from tests.asking import BIGGEST, aside, ask, back, hang, kept, last, many, tell, things, trust

RING = [things(3), tell(1, 1, 2), tell(1, 2, 3), tell(1, 3, 1)]


class Hang(unittest.TestCase):
    def test_each_of_a_ring(self):
        self.assertEqual(ask(*RING, hang(1), hang(2), hang(3))[4:], [[1, 3], [1, 3], [0]])

    def test_nothing_is_set_aside(self):
        self.assertEqual(last(things(3), tell(1, 1, 2), tell(1, 2, 3), hang(1)), [0])

    def test_it_is_kept_because_of_another_one_too(self):
        told = [things(2), tell(1, 1, 2), tell(2, 1, 2), tell(3, 2, 1)]
        self.assertEqual(ask(*told, hang(1), hang(2), hang(3))[4:], [[0], [0], [0]])

    def test_rising_whatever_counts_first(self):
        told = [things(2), tell(3, 2, 1), tell(1, 1, 2), tell(2, 2, 1)]
        self.assertEqual(ask(*told, aside(), hang(2), hang(1), hang(3))[4:], [[2, 1, 3], [2, 1, 3], [0], [0]])

    def test_only_what_would_be_kept(self):
        told = [things(3), tell(1, 1, 2), tell(1, 2, 3), tell(2, 3, 1), tell(2, 3, 2)]
        self.assertEqual(ask(*told, aside(), hang(1), hang(2))[5:], [[2, 3, 4], [1, 3], [2, 3, 4]])

    def test_what_one_that_would_be_kept_sets_aside_is_not_told(self):
        told = [things(6), tell(1, 1, 2), tell(1, 3, 1), tell(1, 5, 1), tell(1, 2, 4), tell(1, 2, 6),
                tell(1, 3, 6), tell(1, 5, 4), tell(2, 4, 3), tell(2, 6, 5)]
        self.assertEqual(ask(*told, aside(), hang(1), back(1), aside())[10:], [[2, 8, 9], [1, 8], [1], [1, 9]])

    def test_several_at_once(self):
        told = [things(3), tell(1, 1, 2), tell(2, 2, 1), tell(2, 2, 3), tell(2, 3, 1), tell(3, 1, 3)]
        self.assertEqual(ask(*told, aside(), hang(1), back(1), aside())[6:], [[2, 2, 4], [2, 2, 4], [1], [1, 5]])

    def test_what_is_kept_and_would_be_set_aside_is_not_told(self):
        told = [things(3), tell(1, 1, 2), tell(1, 2, 1), tell(2, 1, 3), tell(2, 3, 2), tell(3, 1, 2)]
        self.assertEqual(ask(*told, aside(), hang(1), back(1), aside())[6:], [[1, 2], [1, 2], [2], [2, 4, 5]])

    def test_n_itself_is_not_told(self):
        told = [things(2), tell(1, 1, 2), tell(1, 2, 1), tell(2, 2, 1)]
        self.assertEqual(ask(*told, hang(2), hang(3))[4:], [[0], [0]])

    def test_nothing_is_changed(self):
        probe = [kept(), aside(), many(), tell(2, 3, 1), aside()]
        for number in (1, 2, 3):
            self.assertEqual(ask(*RING, hang(number), *probe)[5:], ask(*RING, *probe)[4:])

    def test_it_follows_whom_one_trusts(self):
        told = [things(2), tell(1, 1, 2), tell(2, 2, 1)]
        self.assertEqual(ask(*told, hang(1), hang(2), trust(2, 1, 3), hang(1), hang(2))[3:],
                         [[1, 2], [0], [1], [0], [1, 1]])

    def test_numbers_that_were_taken_back_between(self):
        told = [*RING, back(1), tell(1, 1, 2)]
        self.assertEqual(ask(*told, aside(), hang(2), hang(3), hang(4))[6:], [[1, 4], [1, 4], [1, 4], [0]])


class HangRefused(unittest.TestCase):
    def test_nothing_is_told_as_that(self):
        for number in (0, 4, 21, BIGGEST):
            self.assertEqual(ask(*RING, hang(number), kept(), aside())[4:], [[-2], [2, 1, 2], [1, 3]])

    def test_taken_back(self):
        self.assertEqual(ask(*RING, back(2), hang(2), kept())[4:], [[0], [-2], [2, 1, 3]])

    def test_told_ahead_of_things_anew(self):
        self.assertEqual(ask(*RING, things(3), hang(1))[5:], [[-2]])
