import unittest

from tests.asking import BIGGEST, ask, back, last, tell, things, trust, why


class Why(unittest.TestCase):
    def test_by_one(self):
        self.assertEqual(last(things(2), tell(1, 1, 2), tell(2, 2, 1), why(2)), [1, 1])

    def test_by_two_from_its_y_up_to_its_x(self):
        self.assertEqual(last(things(3), tell(1, 1, 2), tell(1, 2, 3), tell(1, 3, 1), why(3)), [2, 1, 2])

    def test_the_order_is_the_chains_not_the_numbers(self):
        self.assertEqual(last(things(3), tell(1, 2, 3), tell(1, 1, 2), tell(1, 3, 1), why(3)), [2, 2, 1])

    def test_by_five(self):
        chain = [tell(1, x, x + 1) for x in range(5, 0, -1)]
        self.assertEqual(last(things(6), *chain, tell(2, 6, 1), why(6)), [5, 5, 4, 3, 2, 1])

    def test_as_few_as_can_be_goes_before_lower_numbers(self):
        told = [things(3), tell(1, 1, 2), tell(1, 2, 3), tell(1, 1, 3), tell(1, 3, 1)]
        self.assertEqual(last(*told, why(4)), [1, 3])

    def test_the_lowest_number_may_begin_a_longer_row(self):
        told = [things(4), tell(1, 1, 2), tell(1, 2, 3), tell(1, 3, 4), tell(1, 1, 3), tell(2, 4, 1)]
        self.assertEqual(last(*told, why(5)), [2, 4, 3])

    def test_the_lowest_number_may_lead_nowhere(self):
        told = [things(4), tell(1, 1, 4), tell(1, 1, 2), tell(1, 2, 3), tell(2, 3, 1)]
        self.assertEqual(last(*told, why(4)), [2, 2, 3])

    def test_of_as_few_the_lower_number_in_the_first_place(self):
        told = [things(4), tell(1, 3, 4), tell(1, 1, 2), tell(1, 2, 4), tell(1, 1, 3), tell(1, 4, 1)]
        self.assertEqual(last(*told, why(5)), [2, 2, 3])

    def test_of_as_few_the_lower_number_in_the_second_place(self):
        told = [things(3), tell(1, 1, 2), tell(2, 2, 3), tell(1, 2, 3), tell(3, 3, 1)]
        self.assertEqual(last(*told, why(4)), [2, 1, 2])

    def test_the_same_told_by_two_is_named_by_the_lower_number(self):
        self.assertEqual(last(things(2), tell(2, 1, 2), tell(1, 1, 2), tell(3, 2, 1), why(3)), [1, 1])

    def test_a_lower_number_that_counts_after_it_is_not_named(self):
        told = [things(2), tell(3, 1, 2), tell(1, 1, 2), tell(2, 2, 1)]
        self.assertEqual(ask(*told, why(3), trust(3, 1, 2), why(3))[4:], [[1, 2], [1], [1, 1]])

    def test_a_shorter_row_that_counts_after_it_is_not_named(self):
        told = [things(3), tell(3, 1, 3), tell(1, 1, 2), tell(1, 2, 3), tell(2, 3, 1)]
        self.assertEqual(last(*told, why(4)), [2, 2, 3])

    def test_a_shorter_row_told_afterwards_by_the_same_one_is_not_named(self):
        told = [things(3), tell(1, 1, 2), tell(1, 2, 3), tell(1, 3, 1), tell(1, 1, 3)]
        self.assertEqual(last(*told, why(3)), [2, 1, 2])

    def test_what_is_set_aside_is_not_named(self):
        told = [things(5), tell(1, 1, 5), tell(1, 3, 5), tell(1, 5, 3), tell(1, 1, 2), tell(1, 2, 4),
                tell(1, 4, 3), tell(1, 3, 1)]
        self.assertEqual(ask(*told, why(3), why(7))[8:], [[1, 2], [3, 4, 5, 6]])

    def test_what_is_taken_back_is_not_named(self):
        told = [things(3), tell(1, 1, 3), tell(1, 1, 2), tell(1, 2, 3), tell(2, 3, 1)]
        self.assertEqual(ask(*told, why(4), back(1), why(4), back(2), why(4))[5:],
                         [[1, 1], [1], [2, 2, 3], [0], [-3]])


class WhyRefused(unittest.TestCase):
    def test_nothing_is_told_as_that(self):
        for number in (0, 3, 21, BIGGEST):
            self.assertEqual(last(things(2), tell(1, 1, 2), tell(2, 2, 1), why(number)), [-2])

    def test_taken_back(self):
        self.assertEqual(ask(things(2), tell(1, 1, 2), tell(2, 2, 1), back(2), why(2))[4:], [[-2]])

    def test_it_is_kept(self):
        self.assertEqual(ask(things(2), tell(2, 1, 2), why(1), tell(1, 2, 1), why(2), why(1))[2:],
                         [[-3], [2, 1, 1], [-3], [1, 2]])
