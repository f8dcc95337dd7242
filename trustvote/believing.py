"""What's believed of a channel at a time."""

from trustvote.board import NONE, Voted
from trustvote.qualities import BAD, GOOD, MADE_UP, STALE

# How sure something is, in parts of a thousand.
WHOLLY = 1000
OF_WHAT_IS_HELD = 250
NOT_AT_ALL = 0


class Belief:
    """What's believed of one channel: the quality, the value or none, and how sure that is."""

    def __init__(self, quality, value, sure):
        self.quality = quality
        self.value = value
        self.sure = sure

    def has_value(self):
        """Whether a value is believed, not none."""
        return self.value != NONE

    def is_good(self):
        """Whether a value is believed, and its quality is good."""
        return self.has_value() and self.quality == GOOD


class Voice:
    """A member that counts in a vote: its channel, the value believed of it, and its weight."""

    def __init__(self, c, value, weight):
        self.c = c
        self.value = value
        self.weight = weight


def beliefs_from(board, start, t):
    """What's believed at time t of start, which is there, and of all that it comes to, by their numbers."""
    # Many ways may lead to one channel; each is gone into once, or the ways would multiply.
    beliefs = {}
    waiting = [start]
    while len(waiting) > 0:
        c = waiting.pop()
        if c in beliefs:
            continue
        channel = board.channel_at(c)
        missing = [other for other in channel.leans_on() if other not in beliefs]
        if len(missing) > 0:
            waiting.append(c)
            waiting.extend(missing)
        else:
            beliefs[c] = belief_of(channel, beliefs, t)
    return beliefs


def belief_of(channel, beliefs, t):
    """What's believed of the channel, where that is known of those it leans on."""
    if isinstance(channel, Voted):
        return belief_of_voted(channel, beliefs)
    return belief_of_measured(channel, beliefs, t)


def belief_of_measured(channel, beliefs, t):
    """The last value if that's good; else another's, else what is held, else none."""
    quality = quality_at(channel, t)
    if quality == GOOD:
        return Belief(GOOD, channel.last.value, WHOLLY)
    if channel.stand_in is not None:
        other = beliefs[channel.stand_in]
        if other.has_value():
            return Belief(quality | MADE_UP, other.value, other.sure // 2)
    if is_held(channel, t):
        return Belief(quality | MADE_UP, channel.last_good.value, OF_WHAT_IS_HELD)
    return Belief(quality, NONE, NOT_AT_ALL)


def quality_at(channel, t):
    """The quality of the last that came, as it has aged until t."""
    if not channel.last.has_come():
        return STALE
    old = channel.limits.old
    if old > 0 and t - channel.last.time > old:
        return channel.last.quality | STALE
    return channel.last.quality


def is_held(channel, t):
    """Whether the last good value may still be held at t."""
    hold = channel.limits.hold
    if hold == 0 or not channel.last_good.has_come():
        return False
    return t - channel.last_good.time <= hold


def belief_of_voted(channel, beliefs):
    """What more than half of the weight agrees on, or none."""
    agreeing = agreeing_voices(channel, voices_of(channel, beliefs))
    # Members that don't count now still count in what more than half is.
    whole = sum([member[1] for member in channel.members])
    agreed = sum([voice.weight for voice in agreeing])
    sure = agreed * WHOLLY // whole
    if 2 * agreed <= whole:
        return Belief(BAD, NONE, sure)
    total = sum([voice.value * voice.weight for voice in agreeing])
    return Belief(GOOD, nearest(total, agreed), sure)


def voices_of(channel, beliefs):
    """The members that are believed with a value and are good, in the order in which they were told."""
    voices = []
    for member in channel.members:
        belief = beliefs[member[0]]
        if belief.is_good():
            voices.append(Voice(member[0], belief.value, member[1]))
    return voices


def agreeing_voices(channel, voices):
    """Those of the voices that are no farther from their middle than the tolerance."""
    centre = middle(voices)
    return [voice for voice in voices if abs(voice.value - centre) <= channel.tolerance]


def outlying_voices(channel, voices):
    """Those of the voices that are farther from their middle than the tolerance."""
    centre = middle(voices)
    return [voice for voice in voices if abs(voice.value - centre) > channel.tolerance]


def middle(voices):
    """Of the values in order the first with which half of the weight is reached; of no voices none."""
    whole = sum([voice.weight for voice in voices])
    reached = 0
    for voice in sorted(voices, key=lambda one: one.value):
        reached += voice.weight
        if 2 * reached >= whole:
            return voice.value
    return NONE


def nearest(total, parts):
    """The total divided by the parts, to the nearest; of two as near the one away from 0."""
    size = (2 * abs(total) + parts) // (2 * parts)
    if total < 0:
        return -size
    return size
