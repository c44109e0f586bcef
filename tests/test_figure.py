"""A figure looked at in itself: its beginning, the picture at a count, and how a way is kept."""

import unittest

from figurefades.figure import Clip, Figure, is_over, picture_at
from figurefades.moves import way_answer


class Beginning(unittest.TestCase):
    def test_clip_0_and_state_0(self):
        figure = Figure()
        self.assertEqual([(clip.pictures, clip.goes_round, clip.events) for clip in figure.clips], [(1, 1, [])])
        self.assertEqual([(state.clip, state.speed) for state in figure.states], [(0, 1)])
        self.assertEqual((figure.plays, figure.count, figure.fades, figure.ticks), (0, 0, [], 0))

    def test_no_ways_and_nothing_set(self):
        figure = Figure()
        self.assertEqual((figure.ways, figure.settings, figure.signals), ([], [0] * 10, []))


class PictureAtACount(unittest.TestCase):
    def test_going_round(self):
        self.assertEqual([picture_at(Clip(3, 1, []), count) for count in range(8)], [0, 1, 2, 0, 1, 2, 0, 1])
        self.assertEqual([is_over(Clip(3, 1, []), count) for count in range(8)], [False] * 8)

    def test_staying_at_the_last_one(self):
        self.assertEqual([picture_at(Clip(3, 0, []), count) for count in range(5)], [0, 1, 2, 2, 2])
        self.assertEqual([is_over(Clip(3, 0, []), count) for count in range(5)], [False, False, True, True, True])


class WayKept(unittest.TestCase):
    def test_as_it_was_told(self):
        figure = Figure()
        self.assertEqual(way_answer(figure, [1, 0, 7], [0, 3, 9, 3, 2, 5, 1, 4, 8]), [0])
        kept = figure.ways[0]
        self.assertEqual((kept.leads_from, kept.leads_to, kept.blend, kept.conditions),
                         (1, 0, 7, [(0, 3, 9), (3,), (2, 5), (1, 4, 8)]))


if __name__ == "__main__":
    unittest.main()
