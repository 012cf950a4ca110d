import unittest

from tests.asking import BIGGEST, aside, ask, back, below, kept, last, tell, things, trust

RING = [things(3), tell(1, 1, 2), tell(1, 2, 3), tell(1, 3, 1)]


class Back(unittest.TestCase):
    def test_what_was_set_aside_is_kept_then(self):
        self.assertEqual(ask(*RING, back(1), kept(), aside(), below(2, 1), below(1, 2))[4:],
                         [[0], [2, 2, 3], [0], [1], [2]])

    def test_what_was_set_aside_is_taken_back(self):
        self.assertEqual(ask(*RING, back(3), kept(), below(1, 3))[4:], [[0], [2, 1, 2], [1]])

    def test_what_stays_set_aside_is_counted(self):
        told = [things(2), tell(1, 1, 2), tell(2, 1, 2), tell(3, 2, 1)]
        self.assertEqual(ask(*told, back(1), back(2))[4:], [[1], [0]])

    def test_more_may_be_set_aside_than_before(self):
        told = [things(3), tell(1, 1, 2), tell(1, 2, 1), tell(2, 1, 3), tell(2, 3, 2), tell(3, 1, 2)]
        self.assertEqual(ask(*told, aside(), back(1), aside(), kept())[6:],
                         [[1, 2], [2], [2, 4, 5], [2, 2, 3]])

    def test_it_is_as_if_never_told(self):
        told = [things(4), tell(1, 1, 2), tell(2, 2, 1), tell(3, 2, 3), tell(2, 3, 4), tell(1, 4, 2)]
        without = [things(4), tell(2, 2, 1), tell(3, 2, 3), tell(2, 3, 4), tell(1, 4, 2)]
        pairs = [below(x, y) for x in range(1, 5) for y in range(1, 5)]
        self.assertEqual(ask(*told, back(1), *pairs)[7:], ask(*without, *pairs)[5:])

    def test_a_number_is_not_given_again(self):
        self.assertEqual(ask(things(3), tell(1, 1, 2), tell(1, 2, 3), back(2), tell(1, 2, 3), back(1),
                             tell(1, 1, 2), kept())[3:],
                         [[0], [3, 1, 0], [0], [4, 1, 0], [2, 3, 4]])

    def test_a_number_is_not_given_again_when_all_is_taken_back(self):
        self.assertEqual(ask(things(2), tell(1, 1, 2), back(1), kept(), tell(2, 1, 2))[2:], [[0], [0], [2, 1, 0]])

    def test_told_again_it_counts_by_its_new_number(self):
        told = [things(2), tell(1, 1, 2), tell(1, 2, 1), back(1), tell(1, 1, 2)]
        self.assertEqual(ask(*told, kept(), aside())[4:], [[3, 0, 1], [1, 2], [1, 3]])

    def test_the_number_goes_on_beyond_twenty(self):
        calls = [things(2)]
        for number in range(1, 25):
            calls += [tell(3, 2, 1), back(number)]
        self.assertEqual(last(*calls, tell(3, 2, 1)), [25, 1, 0])

    def test_trust_stays(self):
        told = [things(2), trust(2, 1, 3), tell(1, 1, 2), tell(2, 2, 1), tell(3, 1, 2)]
        self.assertEqual(ask(*told, back(3), kept())[5:], [[1], [1, 2]])


class BackRefused(unittest.TestCase):
    def test_nothing_is_told_as_that(self):
        for number in (0, 4, 21, BIGGEST):
            self.assertEqual(ask(*RING, back(number), kept(), aside())[4:], [[-2], [2, 1, 2], [1, 3]])

    def test_taken_back_already(self):
        self.assertEqual(ask(*RING, back(2), back(2), kept())[4:], [[0], [-2], [2, 1, 3]])
