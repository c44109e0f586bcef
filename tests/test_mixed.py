"""All eleven calls in one list: a story worked out by hand, and many lists beside a second telling of the document."""

import random
import unittest
from fractions import Fraction

from figurefades.moves import answers
from tests.calling import (MOST, OVER, ask, at_least, at_most, clip, goto, may, now, set_value, shown, signal, split,
                           state, there, ticks, values, way)

# Stand (state 0), walk (1), run (2), jump (3); a step is event 1 or 2, a landing event 9.
STORY = (
    (clip(4, 1, (1, 1), (3, 2)), [1]),
    (clip(3, 0, (0, 8), (2, 9)), [2]),
    (state(1, 1), [1]),
    (state(1, 2), [2]),
    (state(2, 1), [3]),
    (way(0, 3, 2, there(5)), [0]),
    (way(1, 1, 4, at_least(0, 1)), [1]),
    (way(2, 2, 4, at_least(0, 5)), [2]),
    (way(3, 1, 3, at_most(0, 4)), [3]),
    (way(4, 0, 0, OVER), [4]),
    (may(), [0]),
    (ticks(2), [0]),
    (set_value(0, 3), [0]),
    (may(), [1, 1]),
    # Tick 3 comes to walking, at count 0; ticks 4 and 5 count to 2.
    (ticks(3), [2, 3, 2, 0, 4, 0, 1, 1]),
    (shown(), [2, 1, 2, 1, 2, 0, 0, 1, 2]),
    (shown(), [2, 1, 2, 1, 2, 0, 0, 1, 2]),
    (now(), [1, 2, 2, 0, 1, 5]),
    (set_value(0, 6), [0]),
    (may(), [1, 2]),
    # Tick 6 counts walking to 3 and comes to running; standing has faded 3 of 4.
    (ticks(1), [1, 6, 3, 1, 2]),
    (shown(), [3, 2, 0, 0, 1, 1, 3, 3, 4, 0, 0, 1, 4]),
    # Tick 7 counts running to 2; standing is gone.
    (ticks(1), [1, 7, 0, 1, 1]),
    (shown(), [2, 2, 2, 1, 4, 1, 0, 3, 4]),
    (signal(5), [1]),
    (signal(2), [2]),
    (goto(4), [-2]),
    (may(), [1, 0]),
    # Tick 8 counts running to 4 and comes to jumping; walking has faded 2 of 4.
    (ticks(1), [1, 8, 4, 2, 2, 8]),
    (shown(), [3, 3, 0, 0, 1, 2, 0, 1, 2, 1, 1, 1, 2]),
    (values(), [6] + [0] * 9 + [1, 2]),
    (now(), [3, 0, 0, 0, 2, 8]),
    # Tick 10 lands: all that fades is gone, and standing is come to.
    (ticks(2), [1, 10, 1, 1, 9]),
    (now(), [0, 0, 0, 0, 0, 10]),
    (may(), [1, 1]),
    (goto(3), [0]),
    (ticks(1), [0]),
    (now(), [3, 1, 1, 0, 0, 11]),
    (signal(5), [2]),
    (values(), [6] + [0] * 9 + [2, 2, 5]),
)


class Story(unittest.TestCase):
    def test_forty_calls_of_all_eleven(self):
        self.assertEqual(len(STORY), 40)
        self.assertEqual({call[0] for call, answer in STORY}, set(range(11)))
        self.assertEqual(ask(*[call for call, answer in STORY]), [answer for call, answer in STORY])

    def test_each_beginning_of_it(self):
        for many in range(1, 41):
            self.assertEqual(ask(*[call for call, answer in STORY[:many]]), [answer for call, answer in STORY[:many]])

    def test_what_only_asks_may_be_asked_anywhere_and_twice_on_end(self):
        for asking in (shown(), may(), now(), values()):
            for place in range(len(STORY) - 1):
                calls = [call for call, answer in STORY[:38]]
                given = ask(*calls[:place], asking, asking, *calls[place:])
                self.assertEqual(given[place], given[place + 1], (asking, place))
                self.assertEqual(given[:place] + given[place + 2:], [answer for call, answer in STORY[:38]])


class Telling:
    """The document told a second time, as near to its words as can be; fades are [state, count, had, takes]."""

    def __init__(self):
        self.clips, self.states, self.ways = [(1, 1, [])], [(0, 1)], []
        self.set, self.there, self.plays, self.count, self.fades, self.ticked = [0] * 10, [], 0, 0, [], 0

    def picture(self, state_number, count):
        pictures, goes_round, events = self.clips[self.states[state_number][0]]
        return count % pictures if goes_round else min(count, pictures - 1)

    def over(self):
        pictures, goes_round, events = self.clips[self.states[self.plays][0]]
        return not goes_round and self.count >= pictures - 1

    def events(self, count):
        pictures, goes_round, events = self.clips[self.states[self.plays][0]]
        if not goes_round and count >= pictures:
            return []
        return [which for picture, which in events if picture == self.picture(self.plays, count)]

    def so(self, condition):
        kind = condition[0]
        if kind < 2:
            value = self.set[condition[1]]
            return value >= condition[2] if kind == 0 else value <= condition[2]
        return condition[1] in self.there if kind == 2 else self.over()

    def open_ways(self):
        return [number for number, (leads_from, leads_to, blend, conditions) in enumerate(self.ways)
                if (self.plays + 1 == leads_from or leads_from == 0 and self.plays != leads_to)
                and all(self.so(condition) for condition in conditions)]

    def tick(self):
        self.ticked += 1
        speed = self.states[self.plays][1]
        told = [which for step in range(1, speed + 1) for which in self.events(self.count + step)]
        self.count += speed
        for fade in self.fades:
            fade[1] += self.states[fade[0]][1]
            fade[2] += 1
        done = [place for place, fade in enumerate(self.fades) if fade[2] == fade[3]]
        self.fades = self.fades[:min(done, default=len(self.fades))]
        if not self.open_ways():
            return (0, told)
        leads_from, leads_to, blend, conditions = self.ways[self.open_ways()[0]]
        self.there = [which for which in self.there if (2, which) not in conditions]
        self.fades = [[self.plays, self.count, 0, blend]] + self.fades if blend else []
        self.plays, self.count = leads_to, 0
        return (leads_to + 1, told + self.events(0))

    def shares(self, fades):
        if not fades:
            return [Fraction(1)]
        part = Fraction(fades[0][2], fades[0][3])
        return [part] + [(1 - part) * share for share in self.shares(fades[1:])]

    def answer(self, name, given):
        return getattr(self, "answer_" + name)(*given)

    def answer_clip(self, pictures, goes_round, *events):
        if not 1 <= pictures <= 99 or len(events) > 6 or any(at >= pictures or which > 99 for at, which in events):
            return [-1]
        if len(self.clips) == 8:
            return [-5]
        self.clips.append((pictures, goes_round, events))
        return [len(self.clips) - 1]

    def answer_state(self, clip_number, speed):
        if speed > 9:
            return [-1]
        if clip_number >= len(self.clips):
            return [-2]
        if len(self.states) == 8:
            return [-5]
        self.states.append((clip_number, speed))
        return [len(self.states) - 1]

    def answer_way(self, leads_from, leads_to, blend, *conditions):
        if blend > 50 or len(conditions) > 4:
            return [-1]
        if any(one[0] < 3 and one[1] > 9 or one[0] < 2 and one[2] > 999 for one in conditions):
            return [-1]
        if leads_from > len(self.states) or leads_to >= len(self.states):
            return [-2]
        if len(self.ways) == 16:
            return [-5]
        self.ways.append((leads_from, leads_to, blend, conditions))
        return [len(self.ways) - 1]

    def answer_set_value(self, value, number):
        if value > 9 or number > 999:
            return [-1]
        self.set[value] = number
        return [0]

    def answer_signal(self, which):
        if which > 9:
            return [-1]
        if which not in self.there:
            self.there.append(which)
        return [len(self.there)]

    def answer_ticks(self, many):
        if many > 100:
            return [-1]
        told = []
        for turn in range(many):
            come_to, events = self.tick()
            if come_to or events:
                told.append([self.ticked, come_to, len(events), *events])
        return [len(told)] + [number for row in told for number in row]

    def answer_shown(self):
        rows = [(self.plays, self.count)] + [(fade[0], fade[1]) for fade in self.fades]
        told = [len(rows)]
        for (state_number, count), share in zip(rows, self.shares(self.fades), strict=True):
            told += [state_number, self.picture(state_number, count), share.numerator, share.denominator]
        return told

    def answer_may(self):
        return [len(self.open_ways())] + self.open_ways()

    def answer_goto(self, state_number):
        if state_number >= len(self.states):
            return [-2]
        self.plays, self.count, self.fades = state_number, 0, []
        return [0]

    def answer_now(self):
        return [self.plays, self.count, self.picture(self.plays, self.count), int(self.over()), len(self.fades),
                self.ticked]

    def answer_values(self):
        return self.set + [len(self.there)] + self.there


WRITE = {"clip": clip, "state": state, "way": way, "set_value": set_value, "signal": signal, "ticks": ticks,
         "shown": shown, "may": may, "goto": goto, "now": now, "values": values}


def within(source, most):
    """A number up to most, now and then one more than it, or the greatest that may be handed in."""
    return source.choice((most + 1, MOST)) if source.random() < 0.03 else source.randint(0, most)


def some_condition(source):
    kind = source.randint(0, 3)
    if kind < 2:
        return (kind, within(source, 9), source.choice((0, 1, 2, 500, 998, 999)))
    return (2, within(source, 9)) if kind == 2 else OVER


def some_call(source, name):
    if name == "clip":
        pictures = source.choice((1, 2, 3, 5, 9, 99, within(source, 99)))
        last_picture = max(0, min(pictures, 99) - 1)
        events = [(within(source, last_picture), within(source, 99)) for turn in range(within(source, 6) % 9)]
        return [pictures, source.randint(0, 1), *events]
    if name == "state":
        return [source.randint(0, 4), within(source, 9)]
    if name == "way":
        conditions = [some_condition(source) for turn in range(source.choice((0, 0, 0, 1, 1, 2, 4, 5)))]
        return [source.randint(0, 5), source.randint(0, 4), source.choice((0, 1, 2, 7, 30, 49, 50, 51)), *conditions]
    if name == "set_value":
        return [within(source, 9), source.choice((0, 1, 2, 500, 998, 999, 1000))]
    if name == "ticks":
        return [source.choice((0, 1, 1, 2, 3, 10, 40, 100, 101))]
    if name in ("signal", "goto"):
        return [within(source, 9) if name == "signal" else within(source, 4)]
    return []


def some_calls(source):
    """A list of 40 calls, as (name, what it's given): first mostly what builds the figure, then a mix of all."""
    building = ["clip"] * 2 + ["state"] * 3 + ["way"] * 3
    names = [source.choice(building) for turn in range(source.randint(0, 20))]
    mixed = sorted(WRITE) + ["ticks"] * 6 + ["shown"] * 2
    names += [source.choice(mixed) for turn in range(40 - len(names))]
    return [(name, some_call(source, name)) for name in names]


class BesideASecondTelling(unittest.TestCase):
    def test_many_lists(self):
        source = random.Random(20)
        for turn in range(600):
            calls = some_calls(source)
            telling = Telling()
            expected = [telling.answer(name, given) for name, given in calls]
            handed = [number for name, given in calls for number in WRITE[name](*given)]
            kept = list(handed)
            first = answers(handed)
            self.assertEqual(split(first), expected, calls)
            self.assertEqual(handed, kept, calls)
            self.assertEqual(answers(handed), first, calls)

    def test_shares_are_one_together(self):
        source = random.Random(21)
        for turn in range(300):
            calls = some_calls(source)
            given = ask(*[WRITE[name](*numbers) for name, numbers in calls])
            for (name, numbers), answer in zip(calls, given, strict=True):
                if name == "shown":
                    parts = [Fraction(answer[at + 2], answer[at + 3]) for at in range(1, len(answer), 4)]
                    self.assertEqual(sum(parts), 1, calls)


if __name__ == "__main__":
    unittest.main()
