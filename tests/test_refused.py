import unittest

from tests.calling import (MOST, OVER, ask, at_least, at_most, clip, goto, may, now, set_value, shown, signal, state,
                           there, ticks, values, way)

STORY = (
    clip(3, 1, (0, 1), (2, 3)), clip(2, 0, (1, 7)), state(1, 1), state(2, 1),
    way(1, 1, 3, at_least(0, 5)), way(2, 2, 2, there(4)), way(3, 0, 0, OVER, at_most(0, 5)),
    ticks(2), set_value(0, 5), ticks(3), shown(), may(), signal(4), may(), ticks(4), shown(), now(),
    signal(4), signal(2), values(), ticks(9),
    clip(1, 1), state(3, 1), way(0, 3, 0, there(2)), may(), ticks(2), shown(), may(), now(), values(),
    goto(1), ticks(1), now(),
)

STORY_ANSWERS = [
    [1], [2], [1], [2],
    [0], [1], [2],
    [0], [0], [2, 3, 2, 1, 1, 5, 0, 1, 3], [2, 1, 2, 2, 3, 0, 0, 1, 3], [0], [1], [1, 1],
    [3, 6, 3, 1, 1, 7, 1, 1, 7, 8, 2, 1, 1], [2, 1, 1, 1, 3, 0, 0, 2, 3], [1, 1, 1, 0, 1, 9],
    [1], [2], [5] + [0] * 9 + [2, 4, 2],
    [7, 10, 3, 1, 3, 11, 1, 1, 7, 12, 2, 1, 1, 14, 0, 1, 3, 15, 0, 1, 1, 17, 0, 1, 3, 18, 0, 1, 1],
    [3], [3], [3], [1, 3], [1, 19, 4, 0], [1, 3, 0, 1, 1], [0], [3, 1, 0, 0, 0, 20], [5] + [0] * 9 + [0],
    [0], [0], [1, 1, 1, 0, 0, 21],
]

REFUSED = (
    (clip(0, 1), -1), (clip(100, 0), -1), (clip(3, 1, (3, 1)), -1), (clip(3, 1, (2, 100)), -1),
    (clip(3, 1, (0, 1), (3, 1)), -1), (clip(3, 1, *[(0, 1)] * 7), -1),
    (state(0, 10), -1), (state(9, 1), -2),
    (way(0, 0, 51), -1), (way(0, 0, 0, *[at_least(0, 0)] * 5), -1), (way(0, 0, 0, there(10)), -1),
    (way(0, 0, 0, at_least(10, 0)), -1), (way(0, 0, 0, at_most(0, 1000)), -1), (way(0, 9, 0), -2), (way(9, 0, 0), -2),
    (set_value(10, 0), -1), (set_value(0, 1000), -1), (signal(10), -1), (ticks(101), -1),
    (goto(4), -2), (goto(MOST), -2),
)


class AllIsAsItWas(unittest.TestCase):
    def test_the_story_without_refusals(self):
        self.assertEqual(ask(*STORY), STORY_ANSWERS)

    def test_each_refusal_at_each_place(self):
        for call, refusal in REFUSED:
            for place in range(len(STORY) + 1):
                given = ask(*STORY[:place], call, *STORY[place:])
                self.assertEqual(given.pop(place), [refusal], (call, place))
                self.assertEqual(given, STORY_ANSWERS, (call, place))

    def test_one_clip_too_many(self):
        calls = [*[clip(2, 1, (0, 5))] * 7, clip(2, 1, (0, 6)), state(7, 1), state(8, 1), way(1, 1, 0), ticks(3)]
        self.assertEqual(ask(*calls)[7:], [[-5], [1], [-2], [0], [2, 1, 2, 1, 5, 3, 0, 1, 5]])

    def test_one_state_too_many(self):
        calls = [*[state(0, 1)] * 7, state(0, 2), way(1, 8, 0), way(1, 7, 0), way(9, 0, 0), ticks(3)]
        self.assertEqual(ask(*calls)[7:], [[-5], [-2], [0], [-2], [1, 1, 8, 0]])

    def test_one_way_too_many(self):
        calls = [state(0, 1), *[way(2, 0, 0)] * 15, way(1, 1, 0, there(1)), way(1, 1, 0), ticks(3), signal(1), ticks(2)]
        self.assertEqual(ask(*calls)[16:], [[15], [-5], [0], [1], [2, 4, 2, 0, 5, 1, 0]])


if __name__ == "__main__":
    unittest.main()
