import unittest

from tests.calling import MOST, ask, last, set_value, signal, state, there, ticks, way


class Setting(unittest.TestCase):
    def test_answers_0(self):
        self.assertEqual(ask(set_value(0, 0), set_value(3, 17), set_value(3, 17), set_value(9, 999)), [[0]] * 4)

    def test_value(self):
        for value, answer in ((0, 0), (9, 0), (10, -1), (MOST, -1)):
            self.assertEqual(last(set_value(value, 5)), [answer], value)

    def test_number(self):
        for number, answer in ((0, 0), (998, 0), (999, 0), (1000, -1), (MOST, -1)):
            self.assertEqual(last(set_value(9, number)), [answer], number)

    def test_both_wrong(self):
        self.assertEqual(last(set_value(10, 1000)), [-1])


class Signalling(unittest.TestCase):
    def test_answers_how_many_are_there(self):
        self.assertEqual(ask(signal(4), signal(0), signal(9)), [[1], [2], [3]])

    def test_one_that_is_there_is_not_there_twice(self):
        self.assertEqual(ask(signal(4), signal(4), signal(0), signal(4)), [[1], [1], [2], [2]])

    def test_all_ten(self):
        self.assertEqual(ask(*[signal(which) for which in range(10)]), [[many] for many in range(1, 11)])

    def test_which(self):
        for which, answer in ((0, 1), (9, 1), (10, -1), (MOST, -1)):
            self.assertEqual(last(signal(which)), [answer], which)

    def test_a_refused_one_is_not_there(self):
        self.assertEqual(ask(signal(10), signal(9), signal(11), signal(8)), [[-1], [1], [-1], [2]])

    def test_one_that_a_way_took_may_come_again(self):
        self.assertEqual(ask(signal(4), signal(5), state(0, 1), way(1, 1, 0, there(4)), ticks(1),
                             signal(6), signal(4)),
                         [[1], [2], [1], [0], [1, 1, 2, 0], [2], [3]])


if __name__ == "__main__":
    unittest.main()
