import unittest

from tests.asking import BIGGEST, aside, ask, back, below, kept, last, tell, things

RISING = [(x, y) for x in range(1, 7) for y in range(1, 7) if x < y]
TWENTY = [things(6)] + [tell(1, x, y) for x, y in RISING] + [tell(2, x, y) for x, y in RISING[:5]]


class Tell(unittest.TestCase):
    def test_numbers_rise_from_1_whoever_tells(self):
        self.assertEqual(ask(things(4), tell(2, 1, 2), tell(1, 2, 3), tell(3, 3, 4))[1:],
                         [[1, 1, 0], [2, 1, 0], [3, 1, 0]])

    def test_what_makes_a_ring_is_set_aside(self):
        self.assertEqual(ask(things(3), tell(1, 1, 2), tell(1, 2, 3), tell(1, 3, 1))[1:],
                         [[1, 1, 0], [2, 1, 0], [3, 0, 1]])

    def test_the_contrary_by_the_same_one_is_set_aside(self):
        self.assertEqual(last(things(2), tell(1, 1, 2), tell(1, 2, 1)), [2, 0, 1])

    def test_the_contrary_by_one_less_trusted_is_set_aside(self):
        self.assertEqual(last(things(2), tell(1, 1, 2), tell(3, 2, 1)), [2, 0, 1])

    def test_one_more_trusted_sets_aside_what_was_kept(self):
        self.assertEqual(ask(things(2), tell(2, 1, 2), tell(3, 1, 2), tell(1, 2, 1), aside(), kept())[1:],
                         [[1, 1, 0], [2, 1, 0], [3, 1, 2], [2, 1, 2], [1, 3]])

    def test_one_more_trusted_lets_what_was_set_aside_be_kept(self):
        # 3 below 2 is set aside by 2 below 1 below 3, till 1 below 2 counts first and sets 2 below 1 aside.
        told = [things(3), tell(2, 2, 1), tell(3, 1, 3), tell(3, 3, 2)]
        self.assertEqual(ask(*told, aside(), tell(1, 1, 2), aside(), kept())[4:],
                         [[1, 3], [4, 1, 1], [1, 1], [3, 2, 3, 4]])

    def test_the_same_by_another_is_kept_too(self):
        self.assertEqual(ask(things(2), tell(1, 1, 2), tell(2, 1, 2), tell(3, 1, 2))[1:],
                         [[1, 1, 0], [2, 1, 0], [3, 1, 0]])

    def test_a_shortcut_along_a_chain_is_kept(self):
        self.assertEqual(last(things(3), tell(1, 1, 2), tell(1, 2, 3), tell(2, 1, 3)), [3, 1, 0])

    def test_a_ring_of_six(self):
        chain = [tell(1, x, x + 1) for x in range(1, 6)]
        self.assertEqual(last(things(6), *chain, tell(2, 6, 1)), [6, 0, 1])

    def test_what_is_set_aside_makes_no_ring(self):
        # 2 below 1 is set aside, so 1 below 3 below 2 stands.
        self.assertEqual(ask(things(3), tell(1, 1, 2), tell(1, 2, 1), tell(1, 3, 2), tell(1, 1, 3))[2:],
                         [[2, 0, 1], [3, 1, 1], [4, 1, 1]])


class TellRefused(unittest.TestCase):
    def test_who_is_not_1_to_3(self):
        for w in (0, 4, BIGGEST):
            self.assertEqual(last(things(2), tell(w, 1, 2)), [-1])

    def test_no_such_thing(self):
        for thing in (0, 4, 7, BIGGEST):
            self.assertEqual(ask(things(3), tell(1, thing, 1), tell(1, 1, thing)), [[0], [-1], [-1]])

    def test_the_same_thing_twice(self):
        for thing in (1, 2, 3, 0, BIGGEST):
            self.assertEqual(last(things(3), tell(1, thing, thing)), [-1])

    def test_told_already(self):
        self.assertEqual(last(things(2), tell(2, 1, 2), tell(2, 1, 2)), [-4])

    def test_told_already_and_set_aside(self):
        self.assertEqual(ask(things(2), tell(1, 1, 2), tell(2, 2, 1), tell(2, 2, 1))[2:], [[2, 0, 1], [-4]])

    def test_not_told_any_more_may_be_told_again(self):
        self.assertEqual(last(things(2), tell(1, 1, 2), back(1), tell(1, 1, 2)), [2, 1, 0])

    def test_twenty_are_told(self):
        answered = ask(*TWENTY, tell(3, 1, 2), kept())
        self.assertEqual(answered[20:], [[20, 1, 0], [-5], [20] + list(range(1, 21))])

    def test_twenty_are_told_some_set_aside(self):
        told = [tell(1, x, y) for x, y in RISING] + [tell(2, y, x) for x, y in RISING[:5]]
        self.assertEqual(ask(things(6), *told, tell(3, 1, 2))[20:], [[20, 0, 5], [-5]])

    def test_after_one_is_taken_back_there_is_room_for_one(self):
        answered = ask(*TWENTY, back(7), tell(3, 1, 2), tell(3, 1, 3))
        self.assertEqual(answered[21:], [[0], [21, 1, 0], [-5]])

    def test_of_several_the_one_told_first(self):
        answered = ask(*TWENTY, tell(1, 1, 2), tell(2, 1, 2), tell(4, 1, 2), tell(1, 7, 1), tell(1, 1, 0),
                       tell(1, 5, 5))
        self.assertEqual(answered[21:], [[-4], [-4], [-1], [-1], [-1], [-1]])

    def test_a_refusal_gives_no_number(self):
        answered = ask(things(2), tell(1, 1, 2), tell(1, 1, 2), tell(0, 1, 2), tell(1, 1, 1), tell(1, 1, 3),
                       tell(2, 1, 2))
        self.assertEqual(answered[2:], [[-4], [-1], [-1], [-1], [2, 1, 0]])

    def test_refused_for_being_told_twenty_gives_no_number(self):
        answered = ask(*TWENTY, tell(3, 1, 2), back(20), tell(3, 2, 1), below(1, 2))
        self.assertEqual(answered[21:], [[-5], [0], [21, 0, 1], [1]])
