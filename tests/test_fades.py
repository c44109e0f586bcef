"""What a tick does to all that fades, looked at in the figure itself; test_shown.py looks at what is told of it."""

import unittest

from figurefades.figure import Clip, Figure, State, Way
from figurefades.ticking import tick


def standing(speeds, ways):
    """A figure with these ways and, behind state 0, states of these speeds."""
    figure = Figure()
    figure.clips.append(Clip(4, 1, []))
    for speed in speeds:
        figure.states.append(State(1, speed))
    figure.ways.extend(ways)
    return figure


def fading(figure):
    return [(fade.state, fade.count, fade.had, fade.takes) for fade in figure.fades]


def after_each_tick(figure, many):
    seen = []
    for turn in range(many):
        tick(figure)
        seen.append((figure.plays, figure.count, fading(figure)))
    return seen


class Fading(unittest.TestCase):
    def test_nothing_fades_at_the_beginning(self):
        figure = Figure()
        self.assertEqual(after_each_tick(figure, 2), [(0, 1, []), (0, 2, [])])

    def test_blended_in_0_is_gone_at_once(self):
        figure = standing([2], [Way(1, 1, 0, [])])
        self.assertEqual(after_each_tick(figure, 2), [(1, 0, []), (1, 2, [])])

    def test_a_fade_counts_on_until_it_has_had_its_ticks(self):
        figure = standing([2, 3], [Way(1, 1, 0, []), Way(2, 2, 3, [])])
        self.assertEqual(after_each_tick(figure, 5),
                         [(1, 0, []), (2, 0, [(1, 2, 0, 3)]), (2, 3, [(1, 4, 1, 3)]), (2, 6, [(1, 6, 2, 3)]),
                          (2, 9, [])])

    def test_blended_in_1_is_gone_in_the_next_tick(self):
        figure = standing([1], [Way(1, 1, 1, [])])
        self.assertEqual(after_each_tick(figure, 2), [(1, 0, [(0, 1, 0, 1)]), (1, 1, [])])

    def test_blended_in_50(self):
        figure = standing([1], [Way(1, 1, 50, [])])
        seen = after_each_tick(figure, 51)
        self.assertEqual(seen[49], (1, 49, [(0, 50, 49, 50)]))
        self.assertEqual(seen[50], (1, 50, []))

    def test_newer_fades_stand_first_and_an_older_may_end_before(self):
        figure = standing([1, 0], [Way(1, 1, 3, []), Way(2, 2, 9, [])])
        self.assertEqual(after_each_tick(figure, 4),
                         [(1, 0, [(0, 1, 0, 3)]), (2, 0, [(1, 1, 0, 9), (0, 2, 1, 3)]),
                          (2, 0, [(1, 2, 1, 9), (0, 3, 2, 3)]), (2, 0, [(1, 3, 2, 9)])])

    def test_with_a_fade_all_that_is_older_goes(self):
        figure = standing([1, 0], [Way(1, 1, 9, []), Way(2, 2, 2, [])])
        self.assertEqual(after_each_tick(figure, 4),
                         [(1, 0, [(0, 1, 0, 9)]), (2, 0, [(1, 1, 0, 2), (0, 2, 1, 9)]),
                          (2, 0, [(1, 2, 1, 2), (0, 3, 2, 9)]), (2, 0, [])])

    def test_a_way_blended_in_0_ends_all_that_fades(self):
        figure = standing([1, 0], [Way(1, 1, 9, []), Way(2, 2, 0, [])])
        self.assertEqual(after_each_tick(figure, 2), [(1, 0, [(0, 1, 0, 9)]), (2, 0, [])])

    def test_fades_have_had_their_tick_before_the_way_is_taken(self):
        figure = standing([1, 0], [Way(1, 1, 1, []), Way(2, 2, 4, [])])
        self.assertEqual(after_each_tick(figure, 2), [(1, 0, [(0, 1, 0, 1)]), (2, 0, [(1, 1, 0, 4)])])

    def test_a_state_may_fade_into_itself(self):
        figure = standing([], [Way(1, 0, 3, [])])
        self.assertEqual(after_each_tick(figure, 2),
                         [(0, 0, [(0, 1, 0, 3)]), (0, 0, [(0, 1, 0, 3), (0, 2, 1, 3)])])


if __name__ == "__main__":
    unittest.main()
