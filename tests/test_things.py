import unittest

from tests.asking import BIGGEST, aside, ask, back, below, kept, last, tell, things, trust, why


class TheBeginning(unittest.TestCase):
    def test_there_is_one_thing(self):
        self.assertEqual(ask(below(1, 1), below(1, 2), below(2, 1), tell(1, 1, 2)), [[0], [-1], [-1], [-1]])

    def test_nothing_is_told(self):
        self.assertEqual(ask(kept(), aside(), back(1), why(1)), [[0], [0], [-2], [-2]])

    def test_trust_is_in_1_then_2_then_3(self):
        told = [things(3), tell(3, 3, 1), tell(2, 2, 3), tell(1, 1, 2)]
        self.assertEqual(last(*told, aside()), [1, 1])
        told = [things(2), tell(2, 1, 2), tell(1, 2, 1)]
        self.assertEqual(last(*told, aside()), [1, 1])


class Things(unittest.TestCase):
    def test_one_to_six(self):
        for n in range(1, 7):
            self.assertEqual(ask(things(n), below(n, n), below(n, n + 1)), [[0], [0], [-1]])

    def test_refused_beyond(self):
        for n in (0, 7, 8, 2 ** 31, BIGGEST):
            self.assertEqual(ask(things(n)), [[-1]])

    def test_fewer_than_before(self):
        self.assertEqual(ask(things(6), things(2), below(1, 2), below(1, 3)), [[0], [0], [0], [-1]])

    def test_nothing_is_told_then(self):
        told = [things(3), tell(1, 1, 2), tell(2, 2, 1), things(3)]
        self.assertEqual(ask(*told, kept(), aside(), below(1, 2), back(1), why(2))[4:],
                         [[0], [0], [0], [-2], [-2]])

    def test_numbers_begin_at_1_again(self):
        told = [things(3), tell(1, 1, 2), tell(1, 2, 3), things(3)]
        self.assertEqual(ask(*told, tell(1, 1, 2), tell(1, 2, 3))[4:], [[1, 1, 0], [2, 1, 0]])

    def test_numbers_begin_at_1_again_with_as_many_things(self):
        self.assertEqual(last(things(2), tell(1, 1, 2), back(1), things(2), tell(1, 1, 2)), [1, 1, 0])

    def test_trust_stays(self):
        self.assertEqual(ask(trust(3, 2, 1), things(2), tell(1, 1, 2), tell(3, 2, 1), aside()),
                         [[0], [0], [1, 1, 0], [2, 1, 1], [1, 1]])

    def test_room_for_twenty_again(self):
        pairs = [(x, y) for x in range(1, 7) for y in range(1, 7) if x < y]
        twenty = [tell(1, x, y) for x, y in pairs] + [tell(2, x, y) for x, y in pairs[:5]]
        self.assertEqual(last(things(6), *twenty, things(6), tell(3, 1, 2)), [1, 1, 0])
