"""What shown answers: the states and pictures of what plays and fades, and their shares."""

import unittest
from fractions import Fraction
from math import factorial, gcd, prod

from tests.calling import (OVER, ask, at_least, clip, goto, last, seen, set_value, shown, signal, state, there, ticks,
                           way)

ALONE = (1, 1)


def shares(rows):
    return [row[2:] for row in rows]


def states(rows):
    return [row[0] for row in rows]


def pictures(rows):
    return [row[1] for row in rows]


class Alone(unittest.TestCase):
    def test_at_the_beginning(self):
        self.assertEqual(ask(shown()), [[1, 0, 0, 1, 1]])

    def test_state_0_has_one_picture_at_each_count(self):
        self.assertEqual(ask(ticks(1), shown(), ticks(100), shown())[1::2], [[1, 0, 0, 1, 1]] * 2)

    def test_behind_a_goto(self):
        self.assertEqual(last(clip(3, 1), state(1, 1), goto(1), shown()), [1, 1, 0, 1, 1])

    def test_behind_a_way_blended_in_0(self):
        self.assertEqual(seen(state(0, 1), way(1, 1, 0), ticks(1)), [(1, 0, *ALONE)])

    def test_pictures_going_round(self):
        calls = [clip(4, 1), state(1, 3), goto(1)]
        self.assertEqual([seen(*calls, ticks(many)) for many in range(6)],
                         [[(1, picture, *ALONE)] for picture in (0, 3, 2, 1, 0, 3)])

    def test_pictures_not_going_round(self):
        calls = [clip(4, 0), state(1, 2), goto(1)]
        self.assertEqual([seen(*calls, ticks(many)) for many in range(5)],
                         [[(1, picture, *ALONE)] for picture in (0, 2, 3, 3, 3)])

    def test_speed_0_stays_at_the_first_picture(self):
        for goes_round in (0, 1):
            self.assertEqual(seen(clip(4, goes_round), state(1, 0), goto(1), ticks(7)), [(1, 0, *ALONE)])

    def test_the_last_of_99_pictures(self):
        for goes_round, behind in ((0, 98), (1, 0)):
            calls = [clip(99, goes_round), state(1, 1), goto(1)]
            self.assertEqual(seen(*calls, ticks(98)), [(1, 98, *ALONE)])
            self.assertEqual(seen(*calls, ticks(99)), [(1, behind, *ALONE)])


class OneFade(unittest.TestCase):
    def test_at_each_of_its_ticks(self):
        calls = [clip(9, 1), state(1, 1), way(1, 1, 4)]
        self.assertEqual(seen(*calls), [(0, 0, 1, 1)])
        self.assertEqual(seen(*calls, ticks(1)), [(1, 0, 0, 1), (0, 0, 1, 1)])
        self.assertEqual(seen(*calls, ticks(2)), [(1, 1, 1, 4), (0, 0, 3, 4)])
        self.assertEqual(seen(*calls, ticks(3)), [(1, 2, 1, 2), (0, 0, 1, 2)])
        self.assertEqual(seen(*calls, ticks(4)), [(1, 3, 3, 4), (0, 0, 1, 4)])
        self.assertEqual(seen(*calls, ticks(5)), [(1, 4, 1, 1)])
        self.assertEqual(seen(*calls, ticks(6)), [(1, 5, 1, 1)])

    def test_the_numbers_as_they_stand(self):
        calls = [state(0, 1), way(1, 1, 6)]
        self.assertEqual(last(*calls, ticks(1), shown()), [2, 1, 0, 0, 1, 0, 0, 1, 1])
        self.assertEqual(last(*calls, ticks(3), shown()), [2, 1, 0, 1, 3, 0, 0, 2, 3])

    def test_blended_in_1(self):
        calls = [state(0, 1), way(1, 1, 1)]
        self.assertEqual(seen(*calls, ticks(1)), [(1, 0, 0, 1), (0, 0, 1, 1)])
        self.assertEqual(seen(*calls, ticks(2)), [(1, 0, 1, 1)])

    def test_each_tick_of_each_blend(self):
        for blend in range(1, 51):
            calls = [state(0, 1), way(1, 1, blend)]
            for had in range(blend):
                divisor = gcd(had, blend)
                self.assertEqual(shares(seen(*calls, ticks(1), ticks(had))),
                                 [(had // divisor, blend // divisor), ((blend - had) // divisor, blend // divisor)])
            self.assertEqual(seen(*calls, ticks(1), ticks(blend)), [(1, 0, *ALONE)], blend)

    def test_a_state_that_fades_into_itself(self):
        calls = [clip(5, 1), state(1, 2), goto(1), way(2, 1, 3, there(0)), ticks(1), signal(0), ticks(1)]
        self.assertEqual(seen(*calls), [(1, 0, 0, 1), (1, 4, 1, 1)])
        self.assertEqual(seen(*calls, ticks(1)), [(1, 2, 1, 3), (1, 1, 2, 3)])
        self.assertEqual(seen(*calls, ticks(2)), [(1, 4, 2, 3), (1, 3, 1, 3)])
        self.assertEqual(seen(*calls, ticks(3)), [(1, 1, 1, 1)])


class PicturesOfWhatFades(unittest.TestCase):
    def fading(self, own_clip, speed):
        """Calls after which state 1, at the count of two ticks, has just begun to fade."""
        return [own_clip, state(1, speed), state(0, 1), goto(1), ticks(1), way(2, 2, 9), ticks(1)]

    def test_going_round(self):
        calls = self.fading(clip(5, 1), 2)
        self.assertEqual([pictures(seen(*calls, ticks(many)))[1] for many in range(9)], [4, 1, 3, 0, 2, 4, 1, 3, 0])

    def test_not_going_round(self):
        calls = self.fading(clip(7, 0), 2)
        self.assertEqual([pictures(seen(*calls, ticks(many)))[1] for many in range(4)], [4, 6, 6, 6])
        calls = self.fading(clip(8, 0), 2)
        self.assertEqual([pictures(seen(*calls, ticks(many)))[1] for many in range(4)], [4, 6, 7, 7])

    def test_speed_0(self):
        self.assertEqual(pictures(seen(*self.fading(clip(5, 1), 0), ticks(3))), [0, 0])

    def test_each_with_its_own_clip_and_speed(self):
        calls = [clip(5, 1), clip(4, 0), clip(9, 1), state(1, 2), state(2, 1), state(3, 4),
                 goto(1), way(2, 2, 20), way(3, 3, 20), ticks(2)]
        # State 1 began to fade at count 2, in tick 1; state 2 at count 1, in tick 2.
        self.assertEqual(seen(*calls), [(3, 0, 0, 1), (2, 1, 1, 20), (1, 4, 19, 20)])
        self.assertEqual([pictures(seen(*calls, ticks(many))) for many in range(1, 5)],
                         [[4, 2, 1], [8, 3, 3], [3, 3, 0], [7, 3, 2]])


class SeveralFades(unittest.TestCase):
    def test_two_at_each_of_their_ticks(self):
        calls = [state(0, 1), state(0, 1), way(1, 1, 3), way(2, 2, 4)]
        self.assertEqual(seen(*calls, ticks(1)), [(1, 0, 0, 1), (0, 0, 1, 1)])
        self.assertEqual(seen(*calls, ticks(2)), [(2, 0, 0, 1), (1, 0, 1, 3), (0, 0, 2, 3)])
        self.assertEqual(seen(*calls, ticks(3)), [(2, 0, 1, 4), (1, 0, 1, 2), (0, 0, 1, 4)])
        # The older one is gone before the newer one.
        self.assertEqual(seen(*calls, ticks(4)), [(2, 0, 1, 2), (1, 0, 1, 2)])
        self.assertEqual(seen(*calls, ticks(5)), [(2, 0, 3, 4), (1, 0, 1, 4)])
        self.assertEqual(seen(*calls, ticks(6)), [(2, 0, 1, 1)])

    def test_three_of_different_ticks(self):
        calls = [*[state(0, 1)] * 3, way(1, 1, 10), way(2, 2, 6), way(3, 3, 5)]
        self.assertEqual(seen(*calls, ticks(3)), [(3, 0, 0, 1), (2, 0, 1, 6), (1, 0, 1, 6), (0, 0, 2, 3)])
        # 1/5; then 2/6 of 4/5; then 3/10 of 8/15; then what's left.
        self.assertEqual(seen(*calls, ticks(4)), [(3, 0, 1, 5), (2, 0, 4, 15), (1, 0, 4, 25), (0, 0, 28, 75)])
        # 2/5; then 3/6 of 3/5; then 4/10 of 3/10; then what's left.
        self.assertEqual(seen(*calls, ticks(5)), [(3, 0, 2, 5), (2, 0, 3, 10), (1, 0, 3, 25), (0, 0, 9, 50)])

    def test_a_newer_one_gone_with_all_that_is_older(self):
        calls = [*[state(0, 1)] * 3, way(1, 1, 50), way(2, 2, 40), way(3, 3, 2)]
        self.assertEqual(states(seen(*calls, ticks(3))), [3, 2, 1, 0])
        # Ticks of state 0, 1 and 2 fading: 3 of 50, 2 of 40, 1 of 2.
        self.assertEqual(seen(*calls, ticks(4)), [(3, 0, 1, 2), (2, 0, 1, 40), (1, 0, 57, 2000), (0, 0, 893, 2000)])
        self.assertEqual(seen(*calls, ticks(5)), [(3, 0, 1, 1)])

    def test_one_in_the_middle_gone_with_what_is_older(self):
        calls = [*[state(0, 1)] * 3, way(1, 1, 50), way(2, 2, 2), way(3, 3, 8)]
        # Ticks of state 0, 1 and 2 fading: 2 of 50, 1 of 2, 0 of 8.
        self.assertEqual(seen(*calls, ticks(3)), [(3, 0, 0, 1), (2, 0, 1, 2), (1, 0, 1, 50), (0, 0, 12, 25)])
        self.assertEqual(seen(*calls, ticks(4)), [(3, 0, 1, 8), (2, 0, 7, 8)])

    def test_an_older_one_gone_before_newer_ones(self):
        calls = [*[state(0, 1)] * 3, way(1, 1, 3), way(2, 2, 9), way(3, 3, 9)]
        self.assertEqual(states(seen(*calls, ticks(3))), [3, 2, 1, 0])
        self.assertEqual(seen(*calls, ticks(4)), [(3, 0, 1, 9), (2, 0, 16, 81), (1, 0, 56, 81)])

    def test_a_way_blended_in_0_while_others_fade(self):
        calls = [*[state(0, 1)] * 3, way(1, 1, 9), way(2, 2, 9), way(3, 3, 0, there(4)), ticks(4)]
        self.assertEqual(states(seen(*calls)), [2, 1, 0])
        self.assertEqual(seen(*calls, signal(4), ticks(1)), [(3, 0, 1, 1)])

    def test_a_fade_behind_a_way_blended_in_0(self):
        calls = [*[state(0, 1)] * 3, way(1, 1, 9), way(2, 2, 0), way(3, 3, 7), ticks(3)]
        self.assertEqual(seen(*calls), [(3, 0, 0, 1), (2, 0, 1, 1)])
        self.assertEqual(seen(*calls, ticks(2)), [(3, 0, 2, 7), (2, 0, 5, 7)])

    def test_several_of_one_state(self):
        calls = [clip(7, 1), state(1, 1), way(1, 1, 6), way(2, 0, 6), ticks(4)]
        self.assertEqual(seen(*calls),
                         [(0, 0, 0, 1), (1, 1, 1, 6), (0, 0, 5, 18), (1, 3, 5, 18), (0, 0, 5, 18)])
        self.assertEqual(seen(way(1, 0, 4), ticks(3)), [(0, 0, 0, 1), (0, 0, 1, 4), (0, 0, 3, 8), (0, 0, 3, 8)])

    def test_a_goto_ends_what_fades(self):
        calls = [state(0, 1), way(1, 1, 9), way(2, 0, 9), ticks(5)]
        self.assertEqual(len(seen(*calls)), 6)
        self.assertEqual(seen(*calls, goto(0)), [(0, 0, 1, 1)])
        self.assertEqual(seen(*calls, goto(0), ticks(1)), [(1, 0, 0, 1), (0, 0, 1, 1)])

    def test_shares_are_not_those_of_the_way_taken_later(self):
        calls = [state(0, 1), way(1, 1, 8, there(0)), signal(0), ticks(3), way(2, 0, 5, at_least(0, 1)), ticks(1)]
        self.assertEqual(seen(*calls), [(1, 0, 3, 8), (0, 0, 5, 8)])
        self.assertEqual(seen(*calls, set_value(0, 1), ticks(1)), [(0, 0, 0, 1), (1, 0, 1, 2), (0, 0, 1, 2)])

    def test_a_fade_at_the_end_of_a_clip(self):
        calls = [clip(3, 0), state(1, 1), goto(1), way(2, 0, 2, OVER), ticks(2)]
        self.assertEqual(seen(*calls), [(0, 0, 0, 1), (1, 2, 1, 1)])
        self.assertEqual(seen(*calls, ticks(1)), [(0, 0, 1, 2), (1, 2, 1, 2)])
        self.assertEqual(seen(*calls, ticks(2)), [(0, 0, 1, 1)])


class ManyFades(unittest.TestCase):
    def expected(self, fades, blend):
        """The shares where each tick begins a fade, so that they have had 0, 1, 2 and so on."""
        parts = [Fraction(had, blend) for had in range(fades)]
        told = [prod((1 - part for part in parts[:place]), start=Fraction(1)) * parts[place] for place in range(fades)]
        told.append(prod((1 - part for part in parts), start=Fraction(1)))
        return [(share.numerator, share.denominator) for share in told]

    def test_as_many_as_there_may_be(self):
        for many in (1, 2, 10, 39, 40, 41, 49, 50, 51, 52, 99, 100):
            rows = seen(way(1, 0, 50), ticks(many))
            self.assertEqual(len(rows), min(many, 50) + 1, many)
            self.assertEqual(shares(rows), self.expected(min(many, 50), 50), many)

    def test_the_oldest_of_50(self):
        rows = seen(way(1, 0, 50), ticks(50))
        share = Fraction(factorial(50), 50 ** 50)
        self.assertEqual(rows[-1], (0, 0, share.numerator, share.denominator))
        self.assertGreater(rows[-1][3], 4294967295 ** 4)

    def test_one_together_in_lowest_terms(self):
        for blend in (1, 2, 7, 16, 30, 47, 49, 50):
            for many in (1, 3, 25, 40, 45, 60, 100):
                rows = seen(way(1, 0, blend), ticks(many))
                self.assertEqual(sum(Fraction(above, below) for above, below in shares(rows)), 1, (blend, many))
                self.assertTrue(all(gcd(above, below) == 1 for above, below in shares(rows)), (blend, many))

    def test_of_different_states_and_ticks(self):
        blends = (50, 49, 47, 43, 41, 37, 48, 46)
        calls = [clip(9, 1), *[state(1, speed) for speed in range(1, 8)]]
        calls += [way(number + 1, (number + 1) % 8, blend) for number, blend in enumerate(blends)]
        for many in (8, 20, 36, 41, 50, 100):
            rows = seen(*calls, ticks(many))
            self.assertGreater(len(rows), min(many, 36))
            self.assertEqual(states(rows), [(many - back) % 8 for back in range(len(rows))])
            self.assertEqual(sum(Fraction(above, below) for above, below in shares(rows)), 1, many)
            self.assertTrue(all(gcd(above, below) == 1 for above, below in shares(rows)), many)

    def test_shares_are_whole_numbers(self):
        for row in seen(way(1, 0, 50), ticks(45)):
            self.assertEqual([type(number) for number in row], [int] * 4)


class AskedAgain(unittest.TestCase):
    def test_asking_changes_nothing(self):
        calls = [clip(9, 1), state(1, 1), way(1, 1, 6), way(2, 0, 5), ticks(4)]
        once = ask(*calls, shown(), ticks(3), shown())
        twice = ask(*calls, shown(), shown(), ticks(3), shown(), shown())
        self.assertEqual(twice[5], twice[6])
        self.assertEqual(twice[5:6] + twice[7:9], once[5:])
        self.assertEqual(twice[8], twice[9])


if __name__ == "__main__":
    unittest.main()
