"""The channels that are there, what came of them, and who of them leans on whom."""

LAST_CHANNEL = 63
# 2 to the 62nd: no value, time or setting goes beyond it.
FARTHEST = 4611686018427387904
# How it is told that there is no value, and no time.
NONE = -9223372036854775808
NEVER = -1


def is_value(number):
    """Whether the number is a value; none, which lies below them all, is not."""
    return -FARTHEST <= number <= FARTHEST


class Limits:
    """What is asked of a measured channel."""

    def __init__(self, least, greatest, step, same, old, hold):
        self.least = least
        self.greatest = greatest
        self.step = step
        self.same = same
        self.old = old
        self.hold = hold

    def are_allowed(self):
        """Whether a channel may be asked this."""
        if not is_value(self.least) or not is_value(self.greatest):
            return False
        if self.greatest < self.least:
            return False
        return max(self.step, self.same, self.old, self.hold) <= FARTHEST


class Reading:
    """Something that came: its time, its value or none, and the quality it was judged to have."""

    def __init__(self, time, value, quality):
        self.time = time
        self.value = value
        self.quality = quality

    def has_come(self):
        """Whether it came at all, and doesn't just stand where nothing has come yet."""
        return self.time != NEVER


class Measured:
    """A measured channel: its limits, the channel that stands in for it, or None, and what came."""

    def __init__(self, limits):
        self.limits = limits
        self.stand_in = None
        self.last = Reading(NEVER, NONE, 0)
        self.last_good = Reading(NEVER, NONE, 0)
        # How often in a row the last value has come.
        self.times = 0

    def leans_on(self):
        """The channels that this one leans on."""
        if self.stand_in is None:
            return []
        return [self.stand_in]


class Voted:
    """A voted channel: its tolerance, and its members as pairs of a channel and a weight."""

    def __init__(self, tolerance, members):
        self.tolerance = tolerance
        self.members = members

    def leans_on(self):
        """The channels that this one leans on."""
        return [member[0] for member in self.members]


class Board:
    """The channels that are there, by their numbers."""

    def __init__(self):
        self.channels = {}

    def take_all_away(self):
        """No channel is there any more."""
        self.channels = {}

    def take_away(self, c):
        """Channel c is there no more."""
        self.channels.pop(c)

    def place(self, c, channel):
        """The channel is there from now on, as c."""
        self.channels[c] = channel

    def channel_at(self, c):
        """The channel with this number, or None."""
        return self.channels.get(c)

    def has_channel(self, c):
        """Whether channel c is there."""
        return c in self.channels

    def is_leaned_on(self, c):
        """Whether a channel leans on c."""
        for channel in self.channels.values():
            if c in channel.leans_on():
                return True
        return False

    def comes_to(self, start, goal):
        """Whether start, which is there, comes to goal in any number of steps."""
        # Many ways may lead to one channel; each is looked at once, or the ways would multiply.
        seen = {start: True}
        waiting = [start]
        while len(waiting) > 0:
            c = waiting.pop()
            if c == goal:
                return True
            for other in self.channels[c].leans_on():
                if other not in seen:
                    seen[other] = True
                    waiting.append(other)
        return False
