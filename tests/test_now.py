import unittest

from tests.calling import OVER, ask, clip, goto, last, now, signal, state, there, ticks, way


class Beginning(unittest.TestCase):
    def test_all_six_numbers(self):
        self.assertEqual(ask(now()), [[0, 0, 0, 0, 0, 0]])

    def test_state_0_counts_on(self):
        self.assertEqual(ask(ticks(1), now(), ticks(100), now())[1::2], [[0, 1, 0, 0, 0, 1], [0, 101, 0, 0, 0, 101]])


class CountPictureAndOver(unittest.TestCase):
    def test_going_round_ahead_of_at_and_behind_the_last_picture(self):
        calls = [clip(4, 1), state(1, 1), goto(1)]
        self.assertEqual([last(*calls, ticks(many), now()) for many in (0, 2, 3, 4, 5, 8)],
                         [[1, 0, 0, 0, 0, 0], [1, 2, 2, 0, 0, 2], [1, 3, 3, 0, 0, 3], [1, 4, 0, 0, 0, 4],
                          [1, 5, 1, 0, 0, 5], [1, 8, 0, 0, 0, 8]])

    def test_not_going_round_ahead_of_at_and_behind_the_last_picture(self):
        calls = [clip(4, 0), state(1, 1), goto(1)]
        self.assertEqual([last(*calls, ticks(many), now()) for many in (0, 2, 3, 4, 5, 100)],
                         [[1, 0, 0, 0, 0, 0], [1, 2, 2, 0, 0, 2], [1, 3, 3, 1, 0, 3], [1, 4, 3, 1, 0, 4],
                          [1, 5, 3, 1, 0, 5], [1, 100, 3, 1, 0, 100]])

    def test_a_speed_that_goes_over_the_last_picture(self):
        calls = [clip(4, 0), state(1, 2), goto(1)]
        self.assertEqual([last(*calls, ticks(many), now())[1:4] for many in range(4)],
                         [[0, 0, 0], [2, 2, 0], [4, 3, 1], [6, 3, 1]])
        calls = [clip(4, 1), state(1, 9), goto(1)]
        self.assertEqual([last(*calls, ticks(many), now())[1:4] for many in range(4)],
                         [[0, 0, 0], [9, 1, 0], [18, 2, 0], [27, 3, 0]])

    def test_speed_0(self):
        self.assertEqual(last(clip(4, 0), state(1, 0), goto(1), ticks(9), now()), [1, 0, 0, 0, 0, 9])

    def test_one_picture_is_over_at_once_unless_it_goes_round(self):
        for goes_round, over in ((0, 1), (1, 0)):
            calls = [clip(1, goes_round), state(1, 1), goto(1)]
            self.assertEqual(last(*calls, now()), [1, 0, 0, over, 0, 0])
            self.assertEqual(last(*calls, ticks(2), now()), [1, 2, 0, over, 0, 2])

    def test_99_pictures(self):
        calls = [clip(99, 0), state(1, 1), goto(1)]
        self.assertEqual(last(*calls, ticks(97), now()), [1, 97, 97, 0, 0, 97])
        self.assertEqual(last(*calls, ticks(98), now()), [1, 98, 98, 1, 0, 98])

    def test_a_count_goes_on_through_all_calls(self):
        calls = [clip(99, 1), state(1, 9), goto(1), *[ticks(100)] * 36]
        self.assertEqual(last(*calls, now()), [1, 32400, 32400 % 99, 0, 0, 3600])

    def test_it_is_of_what_plays_not_of_what_fades(self):
        calls = [clip(2, 0), clip(9, 1), state(1, 1), state(2, 2), goto(1), way(2, 2, 50, OVER)]
        self.assertEqual(last(*calls, ticks(4), now()), [2, 6, 6, 0, 1, 4])


class HowManyFade(unittest.TestCase):
    def test_none_one_and_none_again(self):
        calls = [state(0, 1), way(1, 1, 2)]
        self.assertEqual([last(*calls, ticks(many), now()) for many in range(4)],
                         [[0, 0, 0, 0, 0, 0], [1, 0, 0, 0, 1, 1], [1, 1, 0, 0, 1, 2], [1, 2, 0, 0, 0, 3]])

    def test_many(self):
        self.assertEqual([last(way(1, 0, 50), ticks(many), now())[4] for many in (0, 1, 2, 49, 50, 51, 100)],
                         [0, 1, 2, 49, 50, 50, 50])

    def test_gone_with_a_newer_one(self):
        calls = [*[state(0, 1)] * 2, way(1, 1, 9), way(2, 2, 2)]
        self.assertEqual([last(*calls, ticks(many), now())[4] for many in range(5)], [0, 1, 2, 2, 0])

    def test_an_older_one_gone_before(self):
        calls = [*[state(0, 1)] * 2, way(1, 1, 2), way(2, 2, 3)]
        self.assertEqual([last(*calls, ticks(many), now())[4] for many in range(6)], [0, 1, 2, 1, 1, 0])

    def test_gone_by_a_way_blended_in_0(self):
        calls = [*[state(0, 1)] * 2, way(1, 1, 9), way(2, 2, 0)]
        self.assertEqual([last(*calls, ticks(many), now())[4] for many in range(3)], [0, 1, 0])


class HowManyTicks(unittest.TestCase):
    def test_over_several_calls(self):
        calls = [ticks(3), now(), ticks(0), now(), ticks(101), now(), ticks(100), now(), ticks(1), now()]
        self.assertEqual([answer[5] for answer in ask(*calls)[1::2]], [3, 3, 3, 103, 104])

    def test_a_way_taken_does_not_begin_them_again(self):
        calls = [state(0, 1), way(1, 1, 0, there(1)), ticks(7), signal(1), ticks(1)]
        self.assertEqual(last(*calls, now()), [1, 0, 0, 0, 0, 8])


class AskedAgain(unittest.TestCase):
    def test_asking_changes_nothing(self):
        calls = [clip(5, 0), state(1, 1), way(1, 1, 9), ticks(3)]
        given = ask(*calls, now(), now(), ticks(1), now(), now())
        self.assertEqual(given[4:], [[1, 2, 2, 0, 1, 3]] * 2 + [[0]] + [[1, 3, 3, 0, 1, 4]] * 2)


if __name__ == "__main__":
    unittest.main()
