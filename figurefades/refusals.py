"""The refusals of each call, in the order in which they are told; GRANTED where there is none."""

GRANTED = 0
TOO_MUCH = -1
NOT_THERE = -2
FULL = -5

MOST_PICTURES = 99
MOST_EVENTS = 6
LAST_EVENT = 99
MOST_CLIPS = 8
MOST_SPEED = 9
MOST_STATES = 8
MOST_BLEND = 50
MOST_CONDITIONS = 4
MOST_WAYS = 16
LAST_VALUE = 9
MOST_NUMBER = 999
LAST_SIGNAL = 9
MOST_TICKS = 100


def clip_refusal(figure, pictures, events):
    """events are pairs (picture, which)."""
    if pictures < 1 or pictures > MOST_PICTURES or len(events) > MOST_EVENTS:
        return TOO_MUCH
    for event in events:
        if event[0] >= pictures or event[1] > LAST_EVENT:
            return TOO_MUCH
    if len(figure.clips) >= MOST_CLIPS:
        return FULL
    return GRANTED


def state_refusal(figure, clip, speed):
    if speed > MOST_SPEED:
        return TOO_MUCH
    if clip >= len(figure.clips):
        return NOT_THERE
    if len(figure.states) >= MOST_STATES:
        return FULL
    return GRANTED


def condition_refusal(condition):
    """A condition is a tuple: its kind, and what the kind asks for."""
    kind = condition[0]
    if kind == 0 or kind == 1:
        return set_refusal(condition[1], condition[2])
    if kind == 2:
        return signal_refusal(condition[1])
    return GRANTED


def way_refusal(figure, leads_from, leads_to, blend, conditions):
    if blend > MOST_BLEND or len(conditions) > MOST_CONDITIONS:
        return TOO_MUCH
    for condition in conditions:
        if condition_refusal(condition) < 0:
            return TOO_MUCH
    # leads_from is 1 more than a state, so the number of states itself is still one of them.
    if leads_from > len(figure.states) or leads_to >= len(figure.states):
        return NOT_THERE
    if len(figure.ways) >= MOST_WAYS:
        return FULL
    return GRANTED


def set_refusal(value, number):
    if value > LAST_VALUE or number > MOST_NUMBER:
        return TOO_MUCH
    return GRANTED


def signal_refusal(which):
    if which > LAST_SIGNAL:
        return TOO_MUCH
    return GRANTED


def ticks_refusal(many):
    if many > MOST_TICKS:
        return TOO_MUCH
    return GRANTED


def goto_refusal(figure, state):
    if state >= len(figure.states):
        return NOT_THERE
    return GRANTED
