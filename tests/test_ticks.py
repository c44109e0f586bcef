import unittest

from tests.calling import MOST, OVER, ask, at_least, at_most, clip, last, set_value, signal, state, there, ticks, told, way


def playing(own_clip, speed):
    """Calls after which tick 1 comes to state 1, which plays the clip, and nothing leads away."""
    return [own_clip, state(1, speed), way(1, 1, 0)]


class HowMany(unittest.TestCase):
    def test_refusal(self):
        for many, answer in ((0, 0), (1, 0), (99, 0), (100, 0), (101, -1), (MOST, -1)):
            self.assertEqual(last(ticks(many)), [answer], many)

    def test_nothing_to_tell(self):
        self.assertEqual(ask(ticks(5), ticks(0), ticks(100)), [[0], [0], [0]])

    def test_each_tick_of_many_is_told(self):
        self.assertEqual(told(*playing(clip(1, 1, (0, 8)), 1), ticks(100)),
                         [(1, 2, [8])] + [(number, 0, [8]) for number in range(2, 101)])

    def test_which_tick_of_all_over_several_calls(self):
        calls = playing(clip(3, 1, (1, 7)), 1)
        self.assertEqual(ask(*calls, ticks(2), ticks(0), ticks(101), ticks(1), ticks(100))[3:7],
                         [[2, 1, 2, 0, 2, 0, 1, 7], [0], [-1], [0]])
        self.assertEqual(told(*calls, ticks(2), ticks(0), ticks(101), ticks(1), ticks(100)),
                         [(number, 0, [7]) for number in range(5, 104, 3)])

    def test_ticks_before_anything_is_told_count(self):
        self.assertEqual(told(ticks(100), ticks(100), *playing(clip(2, 1), 1), ticks(3)), [(201, 2, [])])


class GoingRound(unittest.TestCase):
    def test_each_time_round(self):
        self.assertEqual(told(*playing(clip(3, 1, (0, 10), (2, 12)), 1), ticks(7)),
                         [(1, 2, [10]), (3, 0, [12]), (4, 0, [10]), (6, 0, [12]), (7, 0, [10])])

    def test_speed_0_tells_count_0_alone(self):
        self.assertEqual(told(*playing(clip(3, 1, (0, 10), (1, 11)), 0), ticks(50)), [(1, 2, [10])])

    def test_all_counts_gone_over_in_their_order(self):
        self.assertEqual(told(*playing(clip(5, 1, (3, 13), (1, 11), (0, 10), (4, 14)), 3), ticks(4)),
                         [(1, 2, [10]), (2, 0, [11, 13]), (3, 0, [14, 10, 11]), (4, 0, [13, 14])])

    def test_speed_above_the_number_of_pictures(self):
        self.assertEqual(told(*playing(clip(2, 1, (0, 10), (1, 11)), 5), ticks(3)),
                         [(1, 2, [10]), (2, 0, [11, 10, 11, 10, 11]), (3, 0, [10, 11, 10, 11, 10])])

    def test_speed_9_over_one_picture(self):
        self.assertEqual(told(*playing(clip(1, 1, (0, 99)), 9), ticks(2)), [(1, 2, [99]), (2, 0, [99] * 9)])

    def test_several_events_at_one_picture_as_they_were_told(self):
        self.assertEqual(told(*playing(clip(2, 1, (1, 5), (0, 9), (1, 3), (1, 5), (0, 0), (1, 4)), 1), ticks(2)),
                         [(1, 2, [9, 0]), (2, 0, [5, 3, 5, 4])])

    def test_event_0_is_something_to_tell(self):
        self.assertEqual(last(*playing(clip(2, 1, (1, 0)), 1), ticks(2)), [2, 1, 2, 0, 2, 0, 1, 0])


class NotGoingRound(unittest.TestCase):
    def test_the_last_picture_is_told_once(self):
        self.assertEqual(told(*playing(clip(3, 0, (0, 10), (1, 11), (2, 12)), 1), ticks(100)),
                         [(1, 2, [10]), (2, 0, [11]), (3, 0, [12])])

    def test_speed_0(self):
        self.assertEqual(told(*playing(clip(3, 0, (0, 10), (1, 11)), 0), ticks(9)), [(1, 2, [10])])

    def test_speed_that_goes_beyond_the_last_picture(self):
        self.assertEqual(told(*playing(clip(3, 0, (1, 11), (2, 12)), 2), ticks(9)),
                         [(1, 2, []), (2, 0, [11, 12])])
        self.assertEqual(told(*playing(clip(4, 0, (0, 10), (3, 13)), 2), ticks(9)), [(1, 2, [10]), (3, 0, [13])])

    def test_speed_above_the_number_of_pictures(self):
        self.assertEqual(told(*playing(clip(3, 0, (2, 12), (1, 11), (0, 10)), 9), ticks(9)),
                         [(1, 2, [10]), (2, 0, [11, 12])])

    def test_one_picture(self):
        self.assertEqual(told(*playing(clip(1, 0, (0, 10)), 1), ticks(9)), [(1, 2, [10])])


class Conditions(unittest.TestCase):
    def taken(self, *calls):
        """Whether the way that is told last of all is taken in the next tick."""
        return told(*calls, ticks(1)) == [(1, 2, [])]

    def test_none(self):
        self.assertTrue(self.taken(state(0, 1), way(1, 1, 0)))

    def test_at_least(self):
        for number, asked, holds in ((0, 0, True), (0, 1, False), (6, 7, False), (7, 7, True), (8, 7, True),
                                     (998, 999, False), (999, 999, True)):
            self.assertEqual(self.taken(state(0, 1), set_value(4, number), way(1, 1, 0, at_least(4, asked))),
                             holds, (number, asked))

    def test_at_most(self):
        for number, asked, holds in ((0, 0, True), (1, 0, False), (6, 7, True), (7, 7, True), (8, 7, False),
                                     (999, 998, False), (999, 999, True)):
            self.assertEqual(self.taken(state(0, 1), set_value(4, number), way(1, 1, 0, at_most(4, asked))),
                             holds, (number, asked))

    def test_each_value_is_its_own_and_0_at_first(self):
        for value in range(10):
            for other in range(10):
                calls = [state(0, 1), set_value(value, 3)]
                self.assertEqual(self.taken(*calls, way(1, 1, 0, at_least(other, 3))), value == other)
                self.assertEqual(self.taken(*calls, way(1, 1, 0, at_most(other, 0))), value != other)

    def test_at_first_a_value_is_at_least_0_and_no_more(self):
        for value in range(10):
            self.assertTrue(self.taken(state(0, 1), way(1, 1, 0, at_least(value, 0), at_most(value, 0))), value)
            self.assertFalse(self.taken(state(0, 1), way(1, 1, 0, at_least(value, 1))), value)

    def test_a_value_set_again(self):
        calls = [state(0, 1), set_value(2, 9), set_value(2, 1)]
        self.assertFalse(self.taken(*calls, way(1, 1, 0, at_least(2, 9))))
        self.assertTrue(self.taken(*calls, way(1, 1, 0, at_most(2, 1))))

    def test_a_signal(self):
        for which in range(10):
            self.assertFalse(self.taken(state(0, 1), way(1, 1, 0, there(which))))
            self.assertTrue(self.taken(state(0, 1), signal(which), way(1, 1, 0, there(which))))
            self.assertFalse(self.taken(state(0, 1), signal((which + 1) % 10), way(1, 1, 0, there(which))))

    def test_a_clip_that_goes_round_is_never_over(self):
        calls = [clip(2, 1), state(1, 1), way(1, 1, 0), way(2, 0, 0, OVER)]
        self.assertEqual(told(*calls, ticks(20)), [(1, 2, [])])
        self.assertFalse(self.taken(state(0, 1), way(1, 1, 0, OVER)))

    def test_a_clip_is_over_at_the_count_of_its_last_picture(self):
        # Count 0 at tick 1; the count of the last of four pictures, 3, at tick 4.
        calls = [clip(4, 0), state(1, 1), state(0, 1), way(1, 1, 0), way(2, 2, 0, OVER)]
        self.assertEqual(told(*calls, ticks(3)), [(1, 2, [])])
        self.assertEqual(told(*calls, ticks(4)), [(1, 2, []), (4, 3, [])])

    def test_a_clip_is_over_behind_its_last_picture(self):
        # Counts 0, 2, 4, 6, with the last picture's count, 3, gone over; at 8 the value lets go.
        calls = [clip(4, 0), state(1, 2), state(0, 1), way(1, 1, 0), way(2, 2, 0, OVER, at_least(0, 1))]
        self.assertEqual(told(*calls, ticks(4), set_value(0, 1), ticks(1)), [(5, 3, [])])
        self.assertEqual(told(clip(4, 0), state(1, 2), state(0, 1), way(1, 1, 0), way(2, 2, 0, OVER), ticks(9)),
                         [(1, 2, []), (3, 3, [])])

    def test_a_clip_of_one_picture_is_over_at_once_but_only_looked_at_in_the_next_tick(self):
        calls = [clip(1, 0), state(1, 0), state(0, 1), way(1, 1, 0), way(2, 2, 0, OVER)]
        self.assertEqual(told(*calls, ticks(5)), [(1, 2, []), (2, 3, [])])

    def test_over_asks_for_what_plays_not_for_what_is_come_to(self):
        self.assertFalse(self.taken(clip(1, 0), state(1, 1), way(1, 1, 0, OVER)))

    def test_all_of_several_must_be_so(self):
        conditions = (at_least(0, 5), at_most(1, 5), there(2), there(3))
        holding = [set_value(0, 5), set_value(1, 5), signal(2), signal(3)]
        self.assertTrue(self.taken(state(0, 1), *holding, way(1, 1, 0, *conditions)))
        broken = [set_value(0, 4), set_value(1, 6), signal(9), signal(9)]
        for place in range(4):
            calls = list(holding)
            calls[place] = broken[place]
            self.assertFalse(self.taken(state(0, 1), *calls, way(1, 1, 0, *conditions)), place)


class WaysTaken(unittest.TestCase):
    def test_the_first_that_may_be(self):
        states = [state(0, 1)] * 3
        self.assertEqual(told(*states, way(1, 2, 0), way(1, 1, 0), way(1, 3, 0), ticks(1)), [(1, 3, [])])
        self.assertEqual(told(*states, way(1, 2, 0, there(0)), way(3, 2, 0), way(1, 1, 0), way(1, 3, 0), ticks(1)),
                         [(1, 2, [])])

    def test_the_first_told_also_before_one_from_the_state_itself(self):
        states = [state(0, 1)] * 2
        self.assertEqual(told(*states, way(0, 2, 0), way(1, 1, 0), ticks(1)), [(1, 3, [])])
        self.assertEqual(told(*states, way(1, 1, 0), way(0, 2, 0), ticks(2)), [(1, 2, []), (2, 3, [])])

    def test_one_way_a_tick(self):
        calls = [state(0, 1), state(0, 1), way(1, 1, 0), way(2, 2, 0), way(3, 0, 0)]
        self.assertEqual(told(*calls, ticks(4)), [(1, 2, []), (2, 3, []), (3, 1, []), (4, 2, [])])

    def test_a_way_from_a_state_is_for_that_state_alone(self):
        self.assertEqual(told(state(0, 1), state(0, 1), way(2, 2, 0), way(3, 1, 0), ticks(9)), [])

    def test_a_way_from_any_is_for_all_but_the_one_it_leads_to(self):
        self.assertEqual(told(way(0, 0, 0), ticks(9)), [])
        self.assertEqual(told(state(0, 1), way(0, 1, 0), ticks(9)), [(1, 2, [])])
        self.assertEqual(told(state(0, 1), state(0, 1), way(1, 1, 0), way(2, 2, 0), way(0, 0, 0), ticks(4)),
                         [(1, 2, []), (2, 3, []), (3, 1, []), (4, 2, [])])

    def test_a_way_that_leads_to_its_own_state(self):
        calls = [clip(3, 1, (0, 10), (1, 11), (2, 12)), state(1, 1), way(1, 1, 0), way(2, 1, 0)]
        self.assertEqual(told(*calls, ticks(3)), [(1, 2, [10]), (2, 2, [11, 10]), (3, 2, [11, 10])])
        self.assertEqual(told(way(1, 0, 3), ticks(2)), [(1, 1, []), (2, 1, [])])

    def test_events_gone_over_come_before_those_of_the_state_come_to(self):
        calls = [clip(2, 1, (0, 20), (1, 21), (0, 22)), clip(3, 1, (0, 30), (0, 31), (1, 32)),
                 state(1, 2), state(2, 1), way(1, 1, 0), way(2, 2, 0, there(0)), ticks(1), signal(0)]
        self.assertEqual(told(*calls, ticks(2)), [(2, 3, [21, 20, 22, 30, 31]), (3, 0, [32])])

    def test_the_state_come_to_counts_from_0_each_time(self):
        calls = [clip(9, 0, (0, 1), (2, 3)), state(1, 1), way(1, 1, 0), way(2, 0, 0, there(7))]
        self.assertEqual(told(*calls, ticks(3), signal(7), ticks(5)),
                         [(4, 1, []), (5, 2, [1]), (7, 0, [3])])

    def test_what_fades_tells_nothing(self):
        calls = [clip(2, 1, (0, 1), (1, 2)), state(1, 1), state(0, 1), way(1, 1, 0), way(2, 2, 50)]
        self.assertEqual(told(*calls, ticks(60)), [(1, 2, [1]), (2, 3, [2])])

    def test_the_blend_does_not_hold_up_the_next_way(self):
        for blend in (0, 1, 2, 50):
            calls = [clip(2, 1, (0, 1), (1, 2)), state(1, 1), way(1, 1, blend), way(2, 0, blend)]
            self.assertEqual(told(*calls, ticks(4)), [(1, 2, [1]), (2, 1, [2]), (3, 2, [1]), (4, 1, [2])], blend)


class SignalsTaken(unittest.TestCase):
    def test_a_signal_is_there_no_more(self):
        calls = [state(0, 1), way(1, 1, 0, there(3)), way(2, 0, 0, there(3)), signal(3)]
        self.assertEqual(told(*calls, ticks(5)), [(1, 2, [])])

    def test_all_signals_of_its_conditions_and_no_others(self):
        calls = [state(0, 1), way(1, 1, 0, there(3), at_most(5, 5), there(1), there(3)),
                 signal(1), signal(3), signal(5), signal(0), ticks(1)]
        self.assertEqual(ask(*calls, signal(5), signal(1), signal(3))[-3:], [[2], [3], [4]])

    def test_a_way_that_is_not_taken_takes_none(self):
        calls = [state(0, 1), way(1, 1, 0, there(3), there(4)), way(2, 0, 0, there(3)), signal(3), ticks(5)]
        self.assertEqual(ask(*calls, signal(3))[-2:], [[0], [1]])

    def test_a_later_way_that_might_have_been_taken_takes_none(self):
        calls = [state(0, 1), way(1, 1, 0, there(3)), way(1, 1, 0, there(4)), signal(3), signal(4), ticks(5)]
        self.assertEqual(ask(*calls, signal(4))[-2:], [[1, 1, 2, 0], [1]])

    def test_a_signal_waits_until_a_way_asks_for_it(self):
        calls = [clip(4, 0), state(1, 1), way(1, 1, 0), way(2, 0, 0, OVER, there(2)), signal(2)]
        self.assertEqual(told(*calls, ticks(4)), [(1, 2, []), (4, 1, [])])

    def test_values_stay(self):
        calls = [state(0, 1), way(1, 1, 0, at_least(2, 5)), way(2, 0, 0, at_least(2, 5)), set_value(2, 5)]
        self.assertEqual(told(*calls, ticks(3)), [(1, 2, []), (2, 1, []), (3, 2, [])])


if __name__ == "__main__":
    unittest.main()
