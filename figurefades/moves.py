"""The calls on a figure, read from one list of whole numbers, and their answers."""

from figurefades.figure import Clip, Figure, State, Way, clip_of, is_over, picture_at
from figurefades.refusals import clip_refusal, goto_refusal, set_refusal, signal_refusal
from figurefades.refusals import state_refusal, ticks_refusal, way_refusal
from figurefades.shares import shares_of
from figurefades.ticking import may_be_taken, tick

# By a call's number: how many whole numbers it has, and whether a row stands behind them.
PLAIN_NUMBERS = (2, 2, 3, 2, 1, 1, 0, 0, 1, 0, 0)
HAS_ROW = (True, False, True, False, False, False, False, False, False, False, False)

# By a condition's kind: how many numbers it has, the kind among them.
CONDITION_NUMBERS = (3, 3, 2, 1)


def event_pairs(row):
    return [(row[at], row[at + 1]) for at in range(0, len(row), 2)]


def split_conditions(row):
    conditions = []
    at = 0
    while at < len(row):
        end = at + CONDITION_NUMBERS[row[at]]
        conditions.append(tuple(row[at:end]))
        at = end
    return conditions


def clip_answer(figure, plain, row):
    events = event_pairs(row)
    refusal = clip_refusal(figure, plain[0], events)
    if refusal < 0:
        return [refusal]
    figure.clips.append(Clip(plain[0], plain[1], events))
    return [len(figure.clips) - 1]


def state_answer(figure, plain, row):
    refusal = state_refusal(figure, plain[0], plain[1])
    if refusal < 0:
        return [refusal]
    figure.states.append(State(plain[0], plain[1]))
    return [len(figure.states) - 1]


def way_answer(figure, plain, row):
    conditions = split_conditions(row)
    refusal = way_refusal(figure, plain[0], plain[1], plain[2], conditions)
    if refusal < 0:
        return [refusal]
    figure.ways.append(Way(plain[0], plain[1], plain[2], conditions))
    return [len(figure.ways) - 1]


def set_answer(figure, plain, row):
    refusal = set_refusal(plain[0], plain[1])
    if refusal < 0:
        return [refusal]
    figure.settings[plain[0]] = plain[1]
    return [0]


def signal_answer(figure, plain, row):
    refusal = signal_refusal(plain[0])
    if refusal < 0:
        return [refusal]
    if plain[0] not in figure.signals:
        figure.signals.append(plain[0])
    return [len(figure.signals)]


def ticks_answer(figure, plain, row):
    refusal = ticks_refusal(plain[0])
    if refusal < 0:
        return [refusal]
    ticks_told = 0
    told = []
    for turn in range(plain[0]):
        outcome = tick(figure)
        come_to = outcome[0]
        events = outcome[1]
        if come_to > 0 or len(events) > 0:
            ticks_told += 1
            told.extend([figure.ticks, come_to, len(events)])
            told.extend(events)
    return [ticks_told] + told


def shown_answer(figure, plain, row):
    shown = [(figure.plays, figure.count)] + [(fade.state, fade.count) for fade in figure.fades]
    shares = shares_of(figure.fades)
    told = [len(shown)]
    for place in range(len(shown)):
        state = shown[place][0]
        told.extend([state, picture_at(clip_of(figure, state), shown[place][1])])
        told.extend(shares[place])
    return told


def may_answer(figure, plain, row):
    ways = [number for number in range(len(figure.ways)) if may_be_taken(figure, figure.ways[number])]
    return [len(ways)] + ways


def goto_answer(figure, plain, row):
    refusal = goto_refusal(figure, plain[0])
    if refusal < 0:
        return [refusal]
    figure.plays = plain[0]
    figure.count = 0
    figure.fades = []
    return [0]


def now_answer(figure, plain, row):
    clip = clip_of(figure, figure.plays)
    over = 1 if is_over(clip, figure.count) else 0
    return [figure.plays, figure.count, picture_at(clip, figure.count), over, len(figure.fades), figure.ticks]


def values_answer(figure, plain, row):
    return figure.settings + [len(figure.signals)] + figure.signals


# By a call's number.
CALL_ANSWERS = (clip_answer, state_answer, way_answer, set_answer, signal_answer, ticks_answer,
                shown_answer, may_answer, goto_answer, now_answer, values_answer)


def answers(calls):
    """Answers the calls on a new figure: for each how many numbers, then these."""
    figure = Figure()
    given = []
    at = 0
    while at < len(calls):
        call = calls[at]
        end = at + 1 + PLAIN_NUMBERS[call]
        plain = calls[at + 1:end]
        row = []
        if HAS_ROW[call]:
            start = end + 1
            end = start + calls[end]
            row = calls[start:end]
        answer = CALL_ANSWERS[call](figure, plain, row)
        given.append(len(answer))
        given.extend(answer)
        at = end
    return given
