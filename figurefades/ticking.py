"""One tick of a figure: counting on, fading, and the way that is taken."""

from figurefades.figure import Fade, clip_of, events_at, is_over


def condition_holds(figure, condition):
    kind = condition[0]
    if kind == 0:
        return figure.settings[condition[1]] >= condition[2]
    if kind == 1:
        return figure.settings[condition[1]] <= condition[2]
    if kind == 2:
        return condition[1] in figure.signals
    return is_over(clip_of(figure, figure.plays), figure.count)


def may_be_taken(figure, way):
    if way.leads_from == 0:
        if figure.plays == way.leads_to:
            return False
    elif figure.plays != way.leads_from - 1:
        return False
    for condition in way.conditions:
        if not condition_holds(figure, condition):
            return False
    return True


def first_way(figure):
    """The first way, as they were told, that may be taken, or None."""
    for way in figure.ways:
        if may_be_taken(figure, way):
            return way
    return None


def count_on(figure):
    """Counts on what plays; gives back the events of each count gone over."""
    clip = clip_of(figure, figure.plays)
    end = figure.count + figure.states[figure.plays].speed
    told = []
    for count in range(figure.count + 1, end + 1):
        told.extend(events_at(clip, count))
    figure.count = end
    return told


def fade_on(figure):
    """Gives each fade its tick and counts on what fades."""
    kept = []
    for fade in figure.fades:
        had = fade.had + 1
        # What is older has its share of what this one leaves, and a fade that is done leaves nothing.
        if had >= fade.takes:
            break
        kept.append(Fade(fade.state, fade.count + figure.states[fade.state].speed, had, fade.takes))
    figure.fades = kept


def take_signals(figure, way):
    asked = [condition[1] for condition in way.conditions if condition[0] == 2]
    figure.signals = [which for which in figure.signals if which not in asked]


def take_way(figure, way):
    """Goes over to the state that the way leads to; gives back the events of its count 0."""
    take_signals(figure, way)
    if way.blend == 0:
        figure.fades = []
    else:
        figure.fades = [Fade(figure.plays, figure.count, 0, way.blend)] + figure.fades
    figure.plays = way.leads_to
    figure.count = 0
    return events_at(clip_of(figure, figure.plays), 0)


def tick(figure):
    """Gives back a pair: 0 or 1 more than the state that was come to, and the events told."""
    figure.ticks += 1
    told = count_on(figure)
    fade_on(figure)
    way = first_way(figure)
    if way is None:
        return (0, told)
    return (way.leads_to + 1, told + take_way(figure, way))
