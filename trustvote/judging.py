"""How what comes of a measured channel is judged."""

from trustvote.board import NONE, Reading
from trustvote.qualities import ABOVE, BAD, BELOW, GOOD, JUMPED, STUCK

# A step is told for a second, times are told in microseconds.
MICROSECONDS = 1000000


def take_in(channel, t, value):
    """The value, or none, has come of the channel: it's judged and kept."""
    times = times_with(channel, value)
    reading = Reading(t, value, judged(channel, t, value, times))
    channel.last = reading
    channel.times = times
    if reading.quality == GOOD:
        channel.last_good = reading


def times_with(channel, value):
    """How often in a row the channel has said the same, with this."""
    if value == NONE:
        return 0
    if value == channel.last.value:
        return channel.times + 1
    return 1


def judged(channel, t, value, times):
    """The quality of what came, the same for so many times in a row."""
    if value == NONE:
        return BAD
    limits = channel.limits
    quality = GOOD
    if value < limits.least:
        quality += BELOW
    if value > limits.greatest:
        quality += ABOVE
    if has_jumped(limits.step, channel.last_good, t, value):
        quality += JUMPED
    if limits.same > 0 and times >= limits.same:
        quality += STUCK
    return quality


def has_jumped(step, good, t, value):
    """Whether the value is farther from the last good one than the step allows in the time since."""
    if step == 0 or not good.has_come():
        return False
    return abs(value - good.value) * MICROSECONDS > step * (t - good.time)
