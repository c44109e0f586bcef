import unittest

from figurefades.moves import answers
from tests.calling import (OVER, ask, at_least, at_most, clip, goto, may, now, set_value, shown, signal, state, there,
                           ticks, values, way)

CALLS = (
    clip(3, 1, (0, 1), (2, 3)), clip(2, 0, (1, 7)), clip(0, 0, (9, 9)), state(1, 1), state(2, 9), state(9, 9),
    way(1, 1, 3, at_least(0, 5), there(4)), way(2, 2, 0, OVER, at_most(0, 3)), way(0, 0, 7, there(5)),
    way(9, 9, 9, OVER), set_value(0, 5), set_value(99, 0), signal(4), signal(5), signal(44), ticks(5), ticks(101),
    signal(4), shown(), may(), now(), values(), ticks(100), goto(1), goto(9), ticks(7), signal(2), shown(), may(), now(), values(),
)


def flat():
    return [number for call in CALLS for number in call]


class Interface(unittest.TestCase):
    def test_numbers_as_they_stand(self):
        # clip of 2 pictures, going round, 7 told at picture 1; its state, speed 1; a way to it; 3 ticks.
        self.assertEqual(answers([0, 2, 1, 2, 1, 7, 1, 1, 1, 2, 1, 1, 0, 0, 5, 3]),
                         [1, 1, 1, 1, 1, 0, 8, 2, 1, 2, 0, 2, 0, 1, 7])

    def test_an_answer_has_its_length_before_it(self):
        self.assertEqual(answers([4, 3]), [1, 1])
        self.assertEqual(answers([3, 3, 3]), [1, 0])
        self.assertEqual(answers([5, 0]), [1, 0])

    def test_the_calls_that_only_ask_as_they_stand(self):
        self.assertEqual(answers([6]), [5, 1, 0, 0, 1, 1])
        self.assertEqual(answers([7]), [1, 0])
        self.assertEqual(answers([8, 0]), [1, 0])
        self.assertEqual(answers([9]), [6, 0, 0, 0, 0, 0, 0])
        self.assertEqual(answers([10]), [11, 0, 0, 0, 0, 0, 0, 0, 0, 0, 0, 0])
        # A way from state 0 to itself, blended in 2; a tick; then all five behind one another.
        self.assertEqual(answers([2, 1, 0, 2, 0, 5, 1, 6, 7, 9, 8, 0, 4, 7, 10]),
                         [1, 0, 4, 1, 1, 1, 0, 9, 2, 0, 0, 0, 1, 0, 0, 1, 1, 2, 1, 0, 6, 0, 0, 0, 0, 1, 1, 1, 0, 1, 1,
                          12, 0, 0, 0, 0, 0, 0, 0, 0, 0, 0, 1, 7])

    def test_a_refusal_is_one_number_alone(self):
        self.assertEqual(answers([4, 10, 5, 101, 1, 1, 1, 8, 1]), [1, -1, 1, -1, 1, -2, 1, -2])

    def test_rows_of_100_numbers(self):
        self.assertEqual(answers([0, 5, 1, 100] + [1] * 100 + [2, 0, 0, 0, 100] + [3] * 100 + [4, 2]),
                         [1, -1, 1, -1, 1, 1])

    def test_as_many_calls_as_there_may_be(self):
        self.assertEqual(ask(*[ticks(100)] * 40), [[0]] * 40)
        for call, answer in ((shown(), [1, 0, 0, 1, 1]), (may(), [0]), (goto(0), [0]), (now(), [0] * 6),
                             (values(), [0] * 11)):
            self.assertEqual(ask(*[call] * 40), [answer] * 40, call)

    def test_whole_numbers_in_a_list(self):
        given = answers(flat())
        self.assertIs(type(given), list)
        self.assertEqual({type(number) for number in given}, {int})

    def test_what_is_handed_in_is_not_changed(self):
        calls = flat()
        answers(calls)
        self.assertEqual(calls, flat())

    def test_a_second_time_is_as_the_first(self):
        calls = flat()
        first = answers(calls)
        kept = list(first)
        second = answers(calls)
        self.assertEqual(second, kept)
        self.assertEqual(first, kept)
        self.assertIsNot(first, second)

    def test_a_figure_is_new_each_time(self):
        answers(flat())
        self.assertEqual(ask(clip(2, 1), state(1, 1), way(1, 1, 0, there(5)), signal(3), ticks(1)),
                         [[1], [1], [0], [1], [0]])
        self.assertEqual(ask(shown(), may(), now(), values()), [[1, 0, 0, 1, 1], [0], [0] * 6, [0] * 11])

    def test_a_changed_answer_changes_no_later_one(self):
        calls = flat()
        first = answers(calls)
        kept = list(first)
        first.clear()
        self.assertEqual(answers(calls), kept)


class NeverWritten(list):
    """A list that refuses each change, so that none can be made for a while either."""

    def refuse(self, *given):
        raise AssertionError("the list handed in was changed")

    __setitem__ = __delitem__ = __iadd__ = __imul__ = refuse
    append = clear = extend = insert = pop = remove = reverse = sort = refuse


class NotForAWhileEither(unittest.TestCase):
    def test_no_change_is_tried(self):
        self.assertEqual(answers(NeverWritten(flat())), answers(flat()))


if __name__ == "__main__":
    unittest.main()
