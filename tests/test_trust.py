import unittest
from itertools import permutations, product

from tests.asking import BIGGEST, aside, ask, back, kept, last, tell, things, trust, why

RING = [things(3), tell(1, 1, 2), tell(2, 2, 3), tell(3, 3, 1)]


class Trust(unittest.TestCase):
    def test_the_one_trusted_last_is_set_aside(self):
        for a, b, c in permutations((1, 2, 3)):
            self.assertEqual(ask(*RING, trust(a, b, c), aside(), kept())[4:],
                             [[1], [1, c], [2] + sorted([a, b])])

    def test_the_first_sets_aside_the_second_and_third(self):
        told = [things(2), tell(1, 1, 2), tell(2, 2, 1), tell(3, 2, 1)]
        self.assertEqual(ask(*told, aside(), trust(1, 3, 2), trust(2, 1, 3), aside(), trust(3, 1, 2), aside())[4:],
                         [[2, 2, 3], [2], [1], [1, 1], [1], [1, 1]])

    def test_the_second_counts_before_the_third(self):
        told = [things(2), tell(2, 1, 2), tell(3, 2, 1)]
        self.assertEqual(ask(*told, aside(), trust(1, 3, 2), aside())[3:], [[1, 2], [1], [1, 1]])

    def test_of_one_who_tells_the_lower_number_counts_first(self):
        told = [things(3), tell(2, 1, 2), tell(1, 2, 3), tell(2, 3, 1), tell(2, 2, 1)]
        self.assertEqual(ask(*told, aside(), trust(2, 1, 3), aside(), kept())[5:],
                         [[2, 3, 4], [2], [2, 2, 4], [2, 1, 3]])

    def test_all_by_the_first_counts_before_any_by_the_second(self):
        told = [things(3), tell(1, 1, 2), tell(2, 2, 1), tell(1, 3, 1), tell(2, 1, 3)]
        self.assertEqual(ask(*told, aside(), trust(2, 3, 1), aside())[5:], [[2, 2, 4], [2], [2, 1, 3]])

    def test_what_is_told_afterwards_counts_by_it(self):
        told = [trust(2, 3, 1), things(2), tell(1, 1, 2), tell(3, 2, 1), tell(2, 1, 2)]
        self.assertEqual(ask(*told, aside())[2:], [[1, 1, 0], [2, 1, 1], [3, 1, 1], [1, 2]])

    def test_why_goes_by_it(self):
        self.assertEqual(ask(*RING, why(3), trust(3, 2, 1), why(1), why(3), trust(3, 1, 2), why(2))[4:],
                         [[2, 1, 2], [1], [2, 2, 3], [-3], [1], [2, 3, 1]])

    def test_numbers_stay(self):
        self.assertEqual(last(*RING, trust(3, 2, 1), back(2), tell(2, 2, 3)), [4, 1, 1])


class TrustRefused(unittest.TestCase):
    def test_not_1_2_and_3_in_some_order(self):
        for three in product((0, 1, 2, 3, 4, BIGGEST), repeat=3):
            expected = [1] if sorted(three) == [1, 2, 3] else [-1]
            self.assertEqual(last(*RING, trust(*three)), expected)

    def test_trust_is_as_it_was(self):
        self.assertEqual(ask(*RING, trust(2, 3, 1), trust(3, 2, 2), aside(), trust(1, 2, 0), aside())[4:],
                         [[1], [-1], [1, 1], [-1], [1, 1]])
