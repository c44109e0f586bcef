"""Writes calls as the interface asks for them, and splits the answers call by call."""

from figurefades.moves import answers

MOST = 4294967295


def clip(pictures, goes_round, *events):
    row = [number for event in events for number in event]
    return [0, pictures, goes_round, len(row)] + row


def state(clip_number, speed):
    return [1, clip_number, speed]


def way(leads_from, leads_to, blend, *conditions):
    row = [number for condition in conditions for number in condition]
    return [2, leads_from, leads_to, blend, len(row)] + row


def set_value(value, number):
    return [3, value, number]


def signal(which):
    return [4, which]


def ticks(many):
    return [5, many]


def shown():
    return [6]


def may():
    return [7]


def goto(state_number):
    return [8, state_number]


def now():
    return [9]


def values():
    return [10]


def at_least(value, number):
    return (0, value, number)


def at_most(value, number):
    return (1, value, number)


def there(which):
    return (2, which)


OVER = (3,)


def split(given):
    parts = []
    at = 0
    while at < len(given):
        end = at + 1 + given[at]
        if end > len(given):
            raise ValueError("an answer is cut short")
        parts.append(given[at + 1:end])
        at = end
    return parts


def ask(*calls):
    """The answers of all calls, each a list of its own."""
    return split(answers([number for call in calls for number in call]))


def last(*calls):
    """The answer of the last call."""
    return ask(*calls)[-1]


def told(*calls):
    """The answer of the last call, a ticks, as a list of (tick, come to, events)."""
    numbers = last(*calls)
    rows = []
    at = 1
    while at < len(numbers):
        end = at + 3 + numbers[at + 2]
        rows.append((numbers[at], numbers[at + 1], numbers[at + 3:end]))
        at = end
    if at > len(numbers) or len(rows) != numbers[0]:
        raise ValueError("the ticks answer does not hold what it counts")
    return rows


def seen(*calls):
    """What is shown behind the calls, as a list of (state, picture, share above, share below)."""
    numbers = last(*calls, shown())
    rows = [tuple(numbers[at:at + 4]) for at in range(1, len(numbers), 4)]
    if len(numbers) != 1 + 4 * numbers[0]:
        raise ValueError("the shown answer does not hold what it counts")
    return rows
