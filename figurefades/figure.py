"""What a figure is made of, and how a clip is read at a count."""


class Clip:
    """Pictures numbered from 0; events are pairs (picture, which), as they were told."""

    def __init__(self, pictures, goes_round, events):
        self.pictures = pictures
        self.goes_round = goes_round
        self.events = events


class State:
    """A clip's number, played so many pictures further each tick."""

    def __init__(self, clip, speed):
        self.clip = clip
        self.speed = speed


class Way:
    """A way over; leads_from is 0 for any state, else 1 more than the state; conditions are tuples."""

    def __init__(self, leads_from, leads_to, blend, conditions):
        self.leads_from = leads_from
        self.leads_to = leads_to
        self.blend = blend
        self.conditions = conditions


class Fade:
    """A state that played and fades out: it has had so many of the ticks that it takes."""

    def __init__(self, state, count, had, takes):
        self.state = state
        self.count = count
        self.had = had
        self.takes = takes


class Figure:
    """A figure, new at its beginning; fades stand newest first."""

    def __init__(self):
        self.clips = [Clip(1, 1, [])]
        self.states = [State(0, 1)]
        self.ways = []
        self.settings = [0] * 10
        self.signals = []
        self.plays = 0
        self.count = 0
        self.fades = []
        self.ticks = 0


def clip_of(figure, state):
    """The clip that the state of this number plays."""
    return figure.clips[figure.states[state].clip]


def picture_at(clip, count):
    """The picture that the clip shows at a count."""
    if clip.goes_round == 1:
        return count % clip.pictures
    return min(count, clip.pictures - 1)


def is_over(clip, count):
    """Whether the clip is over at a count; one that goes round never is."""
    return clip.goes_round == 0 and count >= clip.pictures - 1


def events_at(clip, count):
    """What the clip tells when it comes to a count."""
    # Its last picture stays on show, but was gone over only once.
    if clip.goes_round == 0 and count >= clip.pictures:
        return []
    picture = picture_at(clip, count)
    return [event[1] for event in clip.events if event[0] == picture]
