import unittest

from tests.asking import BIGGEST, aside, ask, back, below, kept, last, tell, things


class KeptAndAside(unittest.TestCase):
    def test_none(self):
        self.assertEqual(ask(things(6), kept(), aside()), [[0], [0], [0]])

    def test_kept_rise_though_they_count_otherwise(self):
        self.assertEqual(last(things(3), tell(3, 1, 2), tell(2, 2, 3), tell(1, 1, 3), kept()), [3, 1, 2, 3])

    def test_aside_rise_though_they_count_otherwise(self):
        told = [things(3), tell(3, 2, 1), tell(2, 3, 2), tell(1, 1, 2), tell(1, 2, 3)]
        self.assertEqual(ask(*told, kept(), aside())[5:], [[2, 3, 4], [2, 1, 2]])

    def test_each_told_is_in_one_of_the_two(self):
        told = [things(4), tell(1, 1, 2), tell(2, 2, 1), tell(3, 2, 3), tell(1, 3, 1), tell(2, 4, 2), tell(3, 3, 4)]
        self.assertEqual(ask(*told, kept(), aside())[7:], [[4, 1, 4, 5, 6], [2, 2, 3]])

    def test_what_is_taken_back_is_in_neither(self):
        told = [things(3), tell(1, 1, 2), tell(2, 2, 1), tell(3, 2, 3)]
        self.assertEqual(ask(*told, back(2), kept(), aside(), back(1), kept(), aside())[4:],
                         [[0], [2, 1, 3], [0], [0], [1, 3], [0]])

    def test_asking_changes_nothing(self):
        told = [things(2), tell(2, 1, 2), tell(1, 2, 1)]
        self.assertEqual(ask(*told, kept(), aside(), kept(), aside())[3:], [[1, 2], [1, 1], [1, 2], [1, 1]])


class Is(unittest.TestCase):
    def test_below_above_and_neither(self):
        told = [things(4), tell(1, 1, 2), tell(1, 3, 2)]
        self.assertEqual(ask(*told, below(1, 2), below(2, 1), below(1, 3), below(3, 1), below(4, 1))[3:],
                         [[1], [2], [0], [0], [0]])

    def test_along_a_chain_told_in_any_order(self):
        told = [things(6), tell(3, 5, 6), tell(1, 3, 4), tell(2, 1, 2), tell(3, 4, 5), tell(1, 2, 3)]
        pairs = [(x, y) for x in range(1, 7) for y in range(1, 7)]
        expected = [[1] if x < y else [2] if x > y else [0] for x, y in pairs]
        self.assertEqual(ask(*told, *[below(x, y) for x, y in pairs])[6:], expected)

    def test_a_thing_is_not_below_itself(self):
        told = [things(3), tell(1, 1, 2), tell(1, 2, 3), tell(1, 3, 1)]
        self.assertEqual(ask(*told, below(1, 1), below(2, 2), below(3, 3))[4:], [[0], [0], [0]])

    def test_by_what_is_kept_alone(self):
        told = [things(3), tell(1, 1, 2), tell(2, 2, 1), tell(2, 3, 1)]
        self.assertEqual(ask(*told, below(1, 2), below(2, 1), below(3, 2))[4:], [[1], [2], [1]])

    def test_not_by_what_is_taken_back(self):
        told = [things(3), tell(1, 1, 2), tell(1, 2, 3), back(2)]
        self.assertEqual(ask(*told, below(1, 3), below(1, 2))[4:], [[0], [1]])

    def test_refused_where_there_is_no_such_thing(self):
        for thing in (0, 4, 6, 7, BIGGEST):
            self.assertEqual(ask(things(3), below(thing, 1), below(1, thing), below(thing, thing)),
                             [[0], [-1], [-1], [-1]])
