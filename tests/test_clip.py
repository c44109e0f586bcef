import unittest

from tests.calling import MOST, ask, clip, last, state


class ClipNumbers(unittest.TestCase):
    def test_first_clip_told_is_number_1(self):
        self.assertEqual(ask(clip(4, 1)), [[1]])

    def test_numbers_go_on(self):
        self.assertEqual(ask(clip(4, 1), clip(4, 0, (0, 3)), clip(1, 1)), [[1], [2], [3]])

    def test_the_8th_clip_is_taken_and_the_9th_is_not(self):
        self.assertEqual(ask(*[clip(2, 1)] * 9), [[1], [2], [3], [4], [5], [6], [7], [-5], [-5]])

    def test_a_refused_9th_clip_cannot_be_played(self):
        self.assertEqual(ask(*[clip(2, 1)] * 8, state(7, 1), state(8, 1))[-3:], [[-5], [1], [-2]])


class ClipRefusals(unittest.TestCase):
    def test_pictures(self):
        for pictures, answer in ((0, -1), (1, 1), (2, 1), (98, 1), (99, 1), (100, -1), (MOST, -1)):
            for goes_round in (0, 1):
                self.assertEqual(last(clip(pictures, goes_round)), [answer], (pictures, goes_round))

    def test_how_many_events(self):
        for many, answer in ((0, 1), (1, 1), (5, 1), (6, 1), (7, -1), (8, -1), (50, -1)):
            self.assertEqual(last(clip(3, 1, *[(0, 1)] * many)), [answer], many)

    def test_an_event_at_a_picture_that_there_is_not(self):
        for pictures in (1, 2, 50, 99):
            self.assertEqual(last(clip(pictures, 0, (pictures - 1, 5))), [1], pictures)
            self.assertEqual(last(clip(pictures, 0, (pictures, 5))), [-1], pictures)
            self.assertEqual(last(clip(pictures, 1, (MOST, 5))), [-1], pictures)

    def test_an_event_above_99(self):
        for which, answer in ((0, 1), (98, 1), (99, 1), (100, -1), (MOST, -1)):
            self.assertEqual(last(clip(3, 1, (0, which))), [answer], which)

    def test_a_wrong_event_anywhere_among_them(self):
        for wrong in ((3, 1), (0, 100)):
            for place in range(6):
                events = [(2, 99)] * 6
                events[place] = wrong
                self.assertEqual(last(clip(3, 1, *events)), [-1], (wrong, place))

    def test_wrong_numbers_are_told_before_too_many_clips(self):
        full = [clip(2, 1)] * 7
        for wrong in (clip(0, 1), clip(100, 1), clip(2, 1, (2, 0)), clip(2, 1, (0, 100)), clip(2, 1, *[(0, 0)] * 7)):
            self.assertEqual(last(*full, wrong), [-1], wrong)
        self.assertEqual(last(*full, clip(2, 1)), [-5])

    def test_a_refused_clip_takes_no_number(self):
        self.assertEqual(ask(clip(0, 1), clip(2, 1), clip(2, 1, (2, 0)), clip(2, 1)), [[-1], [1], [-1], [2]])


if __name__ == "__main__":
    unittest.main()
