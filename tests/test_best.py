import unittest

from tests.asking import ask, back, best, kept, last, tell, things, trust


class Best(unittest.TestCase):
    def test_nothing_is_told(self):
        for n in range(1, 7):
            self.assertEqual(last(things(n), best()), [0] + list(range(1, n + 1)))

    def test_at_the_beginning(self):
        self.assertEqual(ask(best()), [[0, 1]])

    def test_against_none(self):
        self.assertEqual(last(things(4), tell(1, 4, 1), tell(2, 3, 2), best()), [0, 3, 2, 4, 1])

    def test_of_as_few_the_first(self):
        self.assertEqual(last(things(2), tell(1, 2, 1), tell(2, 1, 2), best()), [1, 1, 2])
        ring = [tell(1, 1, 2), tell(1, 2, 3), tell(1, 3, 1)]
        self.assertEqual(last(things(3), *ring, best()), [1, 1, 2, 3])
        other_ring = [tell(1, 2, 1), tell(1, 1, 3), tell(1, 3, 2)]
        self.assertEqual(last(things(3), *other_ring, best()), [1, 1, 3, 2])

    def test_what_is_set_aside_counts_too(self):
        told = [things(2), tell(1, 1, 2), tell(2, 2, 1), tell(3, 2, 1)]
        self.assertEqual(ask(*told, kept(), best())[4:], [[1, 1], [1, 2, 1]])

    def test_a_row_that_may_not_be(self):
        told = [things(3), tell(1, 1, 2), tell(1, 2, 3), tell(2, 3, 1), tell(3, 3, 1), tell(3, 3, 2)]
        self.assertEqual(ask(*told, kept(), best())[6:], [[2, 1, 2], [1, 3, 1, 2]])

    def test_what_counts_before_counts_no_more_than_the_rest(self):
        told = [things(2), tell(3, 1, 2), tell(2, 1, 2), tell(1, 2, 1)]
        expected = [1, 1, 2]
        self.assertEqual(ask(*told, best(), trust(3, 2, 1), best(), trust(1, 3, 2), best())[4:],
                         [expected, [1], expected, [2], expected])

    def test_each_who_tells_the_same_is_counted(self):
        told = [things(2), tell(1, 2, 1), tell(2, 2, 1), tell(3, 2, 1), tell(1, 1, 2), tell(2, 1, 2)]
        self.assertEqual(ask(*told, best(), tell(3, 1, 2), best(), back(4), best())[6:],
                         [[2, 2, 1], [6, 0, 3], [3, 1, 2], [2], [2, 2, 1]])

    def test_it_is_told_between_any_two_places(self):
        self.assertEqual(last(things(6), tell(1, 6, 1), best()), [0, 2, 3, 4, 5, 6, 1])

    def test_all_twenty_told_count(self):
        pairs = [(x, y) for x in range(1, 7) for y in range(1, 7) if x < y]
        told = [tell(1, y, x) for x, y in pairs] + [tell(2, x, y) for x, y in pairs[:5]]
        self.assertEqual(last(things(6), *told, best()), [5, 1, 6, 5, 4, 3, 2])

    def test_it_follows_what_is_told(self):
        told = [things(3), tell(1, 3, 2), tell(2, 2, 1)]
        self.assertEqual(ask(*told, best(), back(1), best(), back(2), best())[3:],
                         [[0, 3, 2, 1], [0], [0, 2, 1, 3], [0], [0, 1, 2, 3]])
