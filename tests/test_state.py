import unittest

from tests.calling import MOST, ask, clip, last, state


class StateNumbers(unittest.TestCase):
    def test_first_state_told_is_number_1(self):
        self.assertEqual(ask(state(0, 1)), [[1]])

    def test_numbers_go_on_also_for_one_clip(self):
        self.assertEqual(ask(clip(3, 1), state(1, 1), state(0, 2), state(1, 1)), [[1], [1], [2], [3]])

    def test_the_8th_state_is_taken_and_the_9th_is_not(self):
        self.assertEqual(ask(*[state(0, 1)] * 9), [[1], [2], [3], [4], [5], [6], [7], [-5], [-5]])


class StateRefusals(unittest.TestCase):
    def test_speed(self):
        for speed, answer in ((0, 1), (1, 1), (8, 1), (9, 1), (10, -1), (MOST, -1)):
            self.assertEqual(last(state(0, speed)), [answer], speed)

    def test_no_such_clip(self):
        self.assertEqual(ask(state(0, 1), state(1, 1), clip(2, 1), state(1, 1), state(2, 1)),
                         [[1], [-2], [1], [2], [-2]])
        self.assertEqual(last(state(MOST, 1)), [-2])

    def test_the_last_of_eight_clips(self):
        self.assertEqual(ask(*[clip(2, 0)] * 7, state(7, 1), state(8, 1))[-2:], [[1], [-2]])

    def test_order_of_refusals(self):
        full = [state(0, 1)] * 7
        self.assertEqual(last(state(1, 10)), [-1])
        self.assertEqual(last(*full, state(0, 10)), [-1])
        self.assertEqual(last(*full, state(1, 10)), [-1])
        self.assertEqual(last(*full, state(1, 9)), [-2])
        self.assertEqual(last(*full, state(0, 9)), [-5])

    def test_a_refused_state_takes_no_number(self):
        self.assertEqual(ask(state(0, 10), state(0, 1), state(5, 1), state(0, 1)), [[-1], [1], [-2], [2]])


if __name__ == "__main__":
    unittest.main()
