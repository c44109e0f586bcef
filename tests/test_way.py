import unittest

from tests.calling import MOST, OVER, ask, at_least, at_most, last, state, there, way


class WayNumbers(unittest.TestCase):
    def test_first_way_is_number_0(self):
        self.assertEqual(ask(way(0, 0, 0)), [[0]])

    def test_numbers_go_on(self):
        self.assertEqual(ask(way(0, 0, 0), way(1, 0, 5, OVER), way(1, 0, 5, OVER)), [[0], [1], [2]])

    def test_the_16th_way_is_taken_and_the_17th_is_not(self):
        self.assertEqual(ask(*[way(1, 0, 0)] * 18), [[number] for number in range(16)] + [[-5], [-5]])


class WayRefusals(unittest.TestCase):
    def test_blend(self):
        for blend, answer in ((0, 0), (1, 0), (49, 0), (50, 0), (51, -1), (MOST, -1)):
            self.assertEqual(last(way(0, 0, blend)), [answer], blend)

    def test_how_many_conditions(self):
        for condition in (at_least(0, 0), at_most(9, 999), there(3), OVER):
            for many, answer in ((0, 0), (1, 0), (3, 0), (4, 0), (5, -1), (33, -1)):
                self.assertEqual(last(way(0, 0, 1, *[condition] * many)), [answer], (condition, many))
        self.assertEqual(last(way(0, 0, 1, *[OVER] * 100)), [-1])

    def test_conditions_of_all_kinds_are_counted_not_their_numbers(self):
        mixed = [at_least(1, 2), at_most(3, 2), there(2), OVER]
        self.assertEqual(last(way(0, 0, 1, *mixed)), [0])
        self.assertEqual(last(way(0, 0, 1, *mixed, OVER)), [-1])

    def test_value_and_signal(self):
        for which, answer in ((0, 0), (8, 0), (9, 0), (10, -1), (MOST, -1)):
            for condition in (at_least(which, 1), at_most(which, 1), there(which)):
                self.assertEqual(last(way(0, 0, 1, condition)), [answer], condition)

    def test_number(self):
        for number, answer in ((0, 0), (998, 0), (999, 0), (1000, -1), (MOST, -1)):
            for condition in (at_least(9, number), at_most(9, number)):
                self.assertEqual(last(way(0, 0, 1, condition)), [answer], condition)

    def test_a_wrong_condition_anywhere_among_them(self):
        for wrong in (at_least(10, 0), at_least(0, 1000), at_most(10, 0), at_most(0, 1000), there(10)):
            for place in range(4):
                conditions = [at_least(1, 2), OVER, there(3), at_most(9, 999)]
                conditions[place] = wrong
                self.assertEqual(last(way(0, 0, 1, *conditions)), [-1], (wrong, place))

    def test_no_such_state(self):
        self.assertEqual(last(way(0, 1, 0)), [-2])
        self.assertEqual(last(way(1, 1, 0)), [-2])
        self.assertEqual(last(way(1, 0, 0)), [0])
        self.assertEqual(last(way(2, 0, 0)), [-2])
        self.assertEqual(last(way(MOST, 0, 0)), [-2])
        self.assertEqual(last(way(0, MOST, 0)), [-2])

    def test_states_told_before_are_there(self):
        self.assertEqual(ask(state(0, 1), way(2, 1, 0), way(3, 1, 0), way(2, 2, 0), way(0, 1, 0)),
                         [[1], [0], [-2], [-2], [1]])

    def test_order_of_refusals(self):
        full = [way(1, 0, 0)] * 16
        for wrong in (way(9, 9, 51), way(9, 0, 0, *[OVER] * 5), way(0, 9, 0, there(10)), way(9, 9, 0, at_most(0, 1000))):
            self.assertEqual(last(wrong), [-1], wrong)
            self.assertEqual(last(*full, wrong), [-1], wrong)
        self.assertEqual(last(*full, way(0, 0, 51)), [-1])
        self.assertEqual(last(*full, way(2, 0, 50)), [-2])
        self.assertEqual(last(*full, way(0, 1, 50)), [-2])
        self.assertEqual(last(*full, way(0, 0, 50)), [-5])

    def test_a_refused_way_takes_no_number(self):
        self.assertEqual(ask(way(0, 0, 51), way(0, 0, 0), way(0, 7, 0), way(0, 0, 0)), [[-1], [0], [-2], [1]])


if __name__ == "__main__":
    unittest.main()
