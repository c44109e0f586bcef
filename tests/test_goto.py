import unittest

from tests.calling import (MOST, OVER, ask, clip, goto, last, may, now, seen, set_value, shown, signal, state, there,
                           ticks, told, values, way)


class GotoRefusals(unittest.TestCase):
    def test_at_the_beginning_there_is_state_0_alone(self):
        self.assertEqual(ask(goto(0), goto(1), goto(2), goto(MOST)), [[0], [-2], [-2], [-2]])

    def test_the_last_state_and_the_one_behind_it(self):
        for many in range(1, 8):
            self.assertEqual(ask(*[state(0, 1)] * many, goto(many), goto(many + 1))[-2:], [[0], [-2]], many)

    def test_a_refused_state_is_none(self):
        self.assertEqual(ask(*[state(0, 1)] * 8, goto(7), goto(8))[-3:], [[-5], [0], [-2]])
        self.assertEqual(ask(state(0, 10), goto(1)), [[-1], [-2]])

    def test_after_its_refusal_all_is_as_it_was(self):
        calls = [clip(5, 1, (0, 3), (2, 4)), state(1, 1), way(1, 1, 9), way(2, 0, 7, there(2)), set_value(3, 4),
                 signal(2), signal(1), ticks(3)]
        asked = [shown(), may(), now(), values(), ticks(5), shown(), now(), values()]
        for state_number in (2, 3, MOST):
            given = ask(*calls, goto(state_number), *asked)
            self.assertEqual(given.pop(len(calls)), [-2])
            self.assertEqual(given, ask(*calls, *asked))


class GotoDone(unittest.TestCase):
    def test_that_state_plays_from_count_0(self):
        calls = [clip(5, 1), state(1, 2), ticks(3), goto(1)]
        self.assertEqual(ask(*calls, now(), ticks(1), now())[-3:], [[1, 0, 0, 0, 0, 3], [0], [1, 2, 2, 0, 0, 4]])

    def test_the_state_that_plays_begins_again(self):
        calls = [clip(3, 0), state(1, 1), goto(1), ticks(4)]
        self.assertEqual(last(*calls, now()), [1, 4, 2, 1, 0, 4])
        self.assertEqual(last(*calls, goto(1), now()), [1, 0, 0, 0, 0, 4])

    def test_nothing_fades(self):
        calls = [state(0, 1), way(1, 1, 50), way(2, 0, 50), ticks(7)]
        self.assertEqual(last(*calls, now())[4], 7)
        for state_number in (0, 1):
            self.assertEqual(last(*calls, goto(state_number), now()), [state_number, 0, 0, 0, 0, 7])
            self.assertEqual(seen(*calls, goto(state_number)), [(state_number, 0, 1, 1)])

    def test_no_event_is_told(self):
        calls = [clip(3, 1, (0, 10), (1, 11), (2, 12)), state(1, 1), goto(1)]
        self.assertEqual(ask(*calls)[-1], [0])
        self.assertEqual(told(*calls, ticks(4)), [(1, 0, [11]), (2, 0, [12]), (3, 0, [10]), (4, 0, [11])])

    def test_coming_to_it_is_not_told_later_either(self):
        self.assertEqual(ask(state(0, 1), goto(1), ticks(5), goto(0), ticks(5)), [[1], [0], [0], [0], [0]])

    def test_ticks_go_on_being_counted(self):
        calls = [clip(1, 1, (0, 8)), state(1, 1), ticks(100), goto(1), ticks(2)]
        self.assertEqual(told(*calls), [(101, 0, [8]), (102, 0, [8])])
        self.assertEqual(told(*calls, goto(0), ticks(3), goto(1), ticks(1)), [(106, 0, [8])])

    def test_a_way_is_taken_from_there_in_the_next_tick(self):
        calls = [clip(1, 0), state(1, 1), state(0, 1), way(2, 2, 4, OVER), goto(1)]
        self.assertEqual(last(*calls, may()), [1, 0])
        self.assertEqual(told(*calls, ticks(2)), [(1, 3, [])])
        self.assertEqual(seen(*calls, ticks(2)), [(2, 0, 1, 4), (1, 0, 3, 4)])

    def test_what_is_set_stays(self):
        calls = [state(0, 1), way(0, 1, 0, there(3)), set_value(2, 7), signal(3), signal(1)]
        self.assertEqual(last(*calls, goto(1), values()), [0, 0, 7] + [0] * 7 + [2, 3, 1])


if __name__ == "__main__":
    unittest.main()
