import unittest

from tests.calling import MOST, ask, at_least, last, set_value, signal, state, there, ticks, values, way

NONE_SET = [0] * 10


class Values(unittest.TestCase):
    def test_at_the_beginning(self):
        self.assertEqual(ask(values()), [NONE_SET + [0]])

    def test_each_in_its_place(self):
        calls = [set_value(value, 100 + value) for value in (3, 9, 0, 7, 1, 5, 2, 8, 6, 4)]
        self.assertEqual(last(*calls, values()), [*range(100, 110), 0])

    def test_one_alone(self):
        for value in range(10):
            expected = list(NONE_SET)
            expected[value] = 999
            self.assertEqual(last(set_value(value, 999), values()), expected + [0], value)

    def test_set_again(self):
        self.assertEqual(last(set_value(2, 9), set_value(2, 4), values()), [0, 0, 4] + [0] * 7 + [0])
        self.assertEqual(last(set_value(2, 9), set_value(2, 0), values()), NONE_SET + [0])

    def test_refused(self):
        calls = [set_value(9, 8), set_value(9, 1000), set_value(10, 5), set_value(MOST, 5), set_value(0, MOST)]
        self.assertEqual(last(*calls, values()), [0] * 9 + [8, 0])

    def test_a_way_taken_leaves_them(self):
        calls = [state(0, 1), way(1, 1, 3, at_least(4, 5)), set_value(4, 5), ticks(3)]
        self.assertEqual(last(*calls, values()), [0] * 4 + [5] + [0] * 5 + [0])


class Signals(unittest.TestCase):
    def test_in_the_order_in_which_they_came(self):
        self.assertEqual(last(signal(7), signal(0), signal(9), signal(3), values()), NONE_SET + [4, 7, 0, 9, 3])

    def test_all_ten(self):
        order = [3, 9, 0, 7, 1, 5, 2, 8, 6, 4]
        self.assertEqual(last(*[signal(which) for which in order], values()), NONE_SET + [10] + order)

    def test_one_that_is_there_already_keeps_its_place(self):
        self.assertEqual(last(signal(7), signal(2), signal(7), values()), NONE_SET + [2, 7, 2])

    def test_refused(self):
        self.assertEqual(last(signal(7), signal(10), signal(MOST), values()), NONE_SET + [1, 7])

    def test_taken_by_a_way(self):
        calls = [state(0, 1), way(1, 1, 0, there(2), there(5)), signal(5), signal(7), signal(2), signal(0)]
        self.assertEqual(ask(*calls, values(), ticks(1), values())[-3::2],
                         [NONE_SET + [4, 5, 7, 2, 0], NONE_SET + [2, 7, 0]])

    def test_taken_by_a_way_and_come_again(self):
        calls = [state(0, 1), way(1, 1, 0, there(5)), signal(5), signal(7), ticks(1), signal(5)]
        self.assertEqual(last(*calls, values()), NONE_SET + [2, 7, 5])

    def test_waiting_through_ticks(self):
        self.assertEqual(last(signal(5), signal(1), ticks(100), values()), NONE_SET + [2, 5, 1])


class Both(unittest.TestCase):
    def test_values_first_then_signals(self):
        self.assertEqual(last(signal(4), set_value(1, 12), signal(3), set_value(9, 6), values()),
                         [0, 12, 0, 0, 0, 0, 0, 0, 0, 6, 2, 4, 3])

    def test_asked_again(self):
        given = ask(set_value(0, 5), signal(4), values(), values(), signal(2), values(), values())
        self.assertEqual(given[2], given[3])
        self.assertEqual(given[5], given[6])
        self.assertEqual(given[6], [5] + [0] * 9 + [2, 4, 2])

    def test_a_later_call_does_not_change_an_earlier_answer(self):
        self.assertEqual(ask(values(), set_value(0, 5), signal(4), values()),
                         [NONE_SET + [0], [0], [1], [5] + [0] * 9 + [1, 4]])


if __name__ == "__main__":
    unittest.main()
