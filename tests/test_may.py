import unittest

from tests.calling import (OVER, ask, at_least, at_most, clip, goto, last, may, now, set_value, signal, state, there,
                           ticks, values, way)


class HowMany(unittest.TestCase):
    def test_none_at_the_beginning(self):
        self.assertEqual(ask(may()), [[0]])

    def test_one(self):
        self.assertEqual(last(state(0, 1), way(1, 1, 5), may()), [1, 0])

    def test_none_of_several(self):
        calls = [state(0, 1), way(2, 0, 5), way(1, 1, 0, there(3)), way(1, 0, 0, at_least(9, 1))]
        self.assertEqual(last(*calls, may()), [0])

    def test_several_in_the_order_in_which_they_were_told(self):
        calls = [state(0, 1), way(1, 1, 5), way(2, 0, 5), way(0, 1, 0), way(1, 0, 0, OVER), way(1, 0, 0, at_most(0, 0))]
        self.assertEqual(last(*calls, may()), [3, 0, 2, 4])
        self.assertEqual(last(*calls, goto(1), may()), [1, 1])

    def test_all_sixteen(self):
        self.assertEqual(last(*[way(1, 0, 0)] * 17, may()), [16, *range(16)])

    def test_a_refused_way_is_none(self):
        self.assertEqual(last(way(1, 0, 51), way(1, 0, 0), way(1, 1, 0), way(1, 0, 0), may()), [2, 0, 1])


class LeadingFrom(unittest.TestCase):
    def test_from_a_state_only_there(self):
        calls = [state(0, 1), state(0, 1), way(1, 1, 0), way(2, 2, 0), way(3, 0, 0)]
        self.assertEqual([last(*calls, goto(number), may()) for number in range(3)], [[1, 0], [1, 1], [1, 2]])

    def test_from_a_state_to_itself(self):
        self.assertEqual(last(way(1, 0, 3), may()), [1, 0])

    def test_from_any_but_the_one_that_it_leads_to(self):
        calls = [state(0, 1), state(0, 1), way(0, 0, 0), way(0, 1, 0), way(0, 2, 0)]
        self.assertEqual([last(*calls, goto(number), may()) for number in range(3)],
                         [[2, 1, 2], [2, 0, 2], [2, 0, 1]])

    def test_what_fades_is_not_one_s_state(self):
        calls = [state(0, 1), way(1, 1, 50), way(0, 0, 3, at_least(0, 1)), ticks(3)]
        self.assertEqual(last(*calls, may()), [0])
        self.assertEqual(last(*calls, set_value(0, 1), may()), [1, 1])


class Conditions(unittest.TestCase):
    def test_at_least(self):
        for number, answer in ((0, [0]), (6, [0]), (7, [1, 0]), (8, [1, 0]), (999, [1, 0])):
            self.assertEqual(last(way(1, 0, 0, at_least(4, 7)), set_value(4, number), may()), answer, number)

    def test_at_most(self):
        for number, answer in ((0, [1, 0]), (6, [1, 0]), (7, [1, 0]), (8, [0]), (999, [0])):
            self.assertEqual(last(way(1, 0, 0, at_most(4, 7)), set_value(4, number), may()), answer, number)

    def test_a_signal(self):
        self.assertEqual(ask(way(1, 0, 0, there(4)), may(), signal(3), may(), signal(4), may())[1::2],
                         [[0], [0], [1, 0]])

    def test_over(self):
        calls = [clip(4, 0), state(1, 1), goto(1), way(2, 0, 0, OVER, there(9)), signal(9)]
        # The way is told behind the ticks, so that none of them takes it.
        for many, answer in ((0, [0]), (2, [0]), (3, [1, 0]), (4, [1, 0]), (50, [1, 0])):
            self.assertEqual(last(*calls[:3], ticks(many), *calls[3:], may()), answer, many)

    def test_a_clip_of_one_picture_is_over_at_once(self):
        self.assertEqual(last(clip(1, 0), state(1, 1), goto(1), way(2, 0, 0, OVER), may()), [1, 0])

    def test_a_clip_that_goes_round_is_never_over(self):
        for many in (0, 3, 4, 7):
            self.assertEqual(last(clip(4, 1), state(1, 1), goto(1), way(2, 0, 0, OVER), ticks(many), may()), [0], many)

    def test_over_asks_for_what_plays_not_for_what_fades(self):
        calls = [clip(2, 0), clip(9, 1), state(1, 1), state(2, 1), goto(1), way(2, 2, 9, OVER), way(3, 0, 0, OVER)]
        self.assertEqual(last(*calls, ticks(3), may()), [0])

    def test_all_of_several_must_be_so(self):
        conditions = (at_least(0, 5), at_most(1, 5), there(2), OVER)
        start = [clip(1, 0), state(1, 1), goto(1), way(2, 0, 0, *conditions)]
        holding = [set_value(0, 5), set_value(1, 5), signal(2), goto(1)]
        self.assertEqual(last(*start, *holding, may()), [1, 0])
        broken = [set_value(0, 4), set_value(1, 6), signal(3), goto(0)]
        for place in range(4):
            calls = list(holding)
            calls[place] = broken[place]
            self.assertEqual(last(*start, *calls, may()), [0], place)


class OnlyAsked(unittest.TestCase):
    def test_signals_stay(self):
        calls = [state(0, 1), way(1, 1, 3, there(4), there(6)), signal(6), signal(4)]
        given = ask(*calls, may(), may(), values(), now(), ticks(1), values())
        self.assertEqual(given[4:], [[1, 0], [1, 0], [0] * 10 + [2, 6, 4], [0] * 6, [1, 1, 2, 0], [0] * 10 + [0]])

    def test_the_first_of_these_is_the_one_taken(self):
        calls = [state(0, 1), state(0, 1), way(1, 1, 0, there(0)), way(1, 2, 0), way(0, 1, 0)]
        self.assertEqual(ask(*calls, may(), ticks(1))[-2:], [[2, 1, 2], [1, 1, 3, 0]])

    def test_a_taken_signal_is_asked_for_again(self):
        calls = [state(0, 1), way(0, 1, 0, there(4)), way(0, 0, 0, there(4)), signal(4)]
        self.assertEqual(ask(*calls, may(), ticks(1), may(), signal(4), may())[4::2], [[1, 0], [0], [1, 1]])


if __name__ == "__main__":
    unittest.main()
