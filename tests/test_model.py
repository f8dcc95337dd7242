"""Many lists of calls, answered as a second, slower telling of the promises answers them."""

import math
import random
import unittest
from fractions import Fraction

from helper import EDGE, NONE, TOP, begin, came, clear, look, now, out, joined, set_up, split, stand, vote
from trustvote.channels import answers


class Model:
    """Channels as dicts by number: of each its kind, whom it leans on, what is asked of it, all that ever came."""

    def __init__(self):
        self.kinds = {}
        self.leans = {}
        self.asked = {}
        self.story = {}

    def reaches(self, start, goal):
        reached = {start}
        for _ in range(64):
            for c in list(reached):
                reached.update(self.leans[c])
        return goal in reached

    def begin(self):
        self.__init__()
        return [0]

    def set_up(self, c, least, greatest, *others):
        good = c < 64 and -EDGE <= least <= greatest <= EDGE
        if not good or any(number > EDGE for number in others):
            return [-1]
        if self.kinds.get(c) == "voted":
            return [-4]
        self.asked[c] = (least, greatest, *others)
        if c in self.kinds:
            return [1]
        self.kinds[c] = "measured"
        self.leans[c] = []
        self.story[c] = []
        return [0]

    def stand(self, c, s):
        if c >= 64 or s >= 65:
            return [-1]
        if self.kinds.get(c) != "measured" or (s != 64 and s not in self.kinds):
            return [-2]
        if s != 64 and self.reaches(s, c):
            return [-3]
        self.leans[c] = [] if s == 64 else [s]
        return [0]

    def vote(self, c, tolerance, *row):
        row = row[1:]
        members, weights = row[::2], row[1::2]
        fits = c < 64 and tolerance <= EDGE and 2 <= len(members) <= 16 and max(members) < 64
        if not fits or not all(1 <= weight <= 100 for weight in weights) or len(set(members)) < len(members):
            return [-1]
        if self.kinds.get(c) == "measured":
            return [-4]
        if not set(members) <= set(self.kinds):
            return [-2]
        if any(self.reaches(member, c) for member in members):
            return [-3]
        self.kinds[c] = "voted"
        self.leans[c] = list(members)
        self.asked[c] = (tolerance, weights)
        return [0]

    def clear(self, c):
        if c >= 64:
            return [-1]
        if c not in self.kinds:
            return [-2]
        if any(c in leaned for leaned in self.leans.values()):
            return [-4]
        for kept in (self.kinds, self.leans, self.asked, self.story):
            kept.pop(c, None)
        return [0]

    def good_ones(self, c):
        return [came for came in self.story[c] if came[2] == 0]

    def in_a_row(self, c):
        values = [value for time, value, quality in self.story[c]]
        if not values or values[-1] == NONE:
            return 0
        same = 0
        while same < len(values) and values[-1 - same] == values[-1]:
            same += 1
        return same

    def came(self, c, t, value):
        if c >= 64 or t > EDGE or not (-EDGE <= value <= EDGE or value == NONE):
            return [-1]
        if self.kinds.get(c) != "measured":
            return [-2]
        if any(t < time for time, other, quality in self.story[c]):
            return [-4]
        good = self.good_ones(c)
        self.story[c].append((t, value, None))
        least, greatest, step, same = self.asked[c][:4]
        parts = [128] if value == NONE else []
        if value != NONE:
            parts += [2] if value < least else []
            parts += [4] if value > greatest else []
            if step and good and abs(value - good[-1][1]) > Fraction(step * (t - good[-1][0]), 1000000):
                parts += [8]
            parts += [16] if 0 < same <= self.in_a_row(c) else []
        self.story[c][-1] = (t, value, sum(parts))
        return [sum(parts)]

    def believed(self, c, t, known):
        if c not in known:
            known[c] = (self.voted if self.kinds[c] == "voted" else self.measured)(c, t, known)
        return known[c]

    def measured(self, c, t, known):
        old, hold = self.asked[c][4:]
        parts = set()
        if self.story[c]:
            parts.update(2 ** k for k in range(8) if self.story[c][-1][2] & 2 ** k)
            if old and t > self.story[c][-1][0] + old:
                parts.add(1)
        else:
            parts.add(1)
        if not parts:
            return 0, self.story[c][-1][1], 1000
        for other in self.leans[c]:
            quality, value, sure = self.believed(other, t, known)
            if value != NONE:
                return sum(parts | {64}), value, sure // 2
        good = self.good_ones(c)
        if hold and good and t <= good[-1][0] + hold:
            return sum(parts | {64}), good[-1][1], 250
        return sum(parts), NONE, 0

    def heard(self, c, t, known):
        """The members that count, with their values and weights, and how far each is from the middle."""
        tolerance, weights = self.asked[c]
        told = [(m, self.believed(m, t, known), weight) for m, weight in zip(self.leans[c], weights)]
        told = [(m, belief[1], weight) for m, belief, weight in told if belief[0] == 0 and belief[1] != NONE]
        spread = sorted(value for m, value, weight in told for _ in range(weight))
        return [(m, value, weight, abs(value - spread[(len(spread) - 1) // 2])) for m, value, weight in told]

    def voted(self, c, t, known):
        tolerance, weights = self.asked[c]
        agree = [(value, weight) for m, value, weight, far in self.heard(c, t, known) if far <= tolerance]
        share = Fraction(sum(weight for value, weight in agree), sum(weights))
        sure = math.floor(share * 1000)
        if share <= Fraction(1, 2):
            return 128, NONE, sure
        mean = Fraction(sum(value * weight for value, weight in agree), sum(weight for value, weight in agree))
        low = math.floor(mean)
        nearest = min((low, low + 1), key=lambda whole: (abs(whole - mean), -abs(whole)))
        return 0, nearest, sure

    def now(self, c, t):
        if c >= 64 or t > EDGE:
            return [-1]
        return list(self.believed(c, t, {})) if c in self.kinds else [-2]

    def out(self, c, t):
        if c >= 64 or t > EDGE:
            return [-1]
        if self.kinds.get(c) != "voted":
            return [-2]
        far_ones = [m for m, value, weight, far in self.heard(c, t, {}) if far > self.asked[c][0]]
        return [len(far_ones), *far_ones]

    def look(self, c):
        if c >= 64 or c not in self.kinds:
            return [-1] if c >= 64 else [-2]
        if self.kinds[c] == "voted":
            return [1, -1, NONE, 0, -1, NONE, 0]
        last = ([(-1, NONE, 0)] + self.story[c])[-1]
        good = ([(-1, NONE, 0)] + self.good_ones(c))[-1]
        return [0, *last, *good[:2], self.in_a_row(c)]

    def answer(self, call):
        ways = (self.begin, self.set_up, self.stand, self.vote, self.clear, self.came, self.now, self.out, self.look)
        return ways[call[0]](*call[1:])


class Caller:
    """Draws calls, mostly such as could be carried out, with a clock that goes on."""

    def __init__(self, source):
        self.source = source
        # The channels below half are mostly measured, the others up to most voted.
        self.most = source.choice((4, 6, 8, 12, 64))
        self.half = source.randint(2, self.most - 1)
        # Small values and times show the edges of limits, great ones those of numbers.
        self.great = source.random() < 0.2
        self.clock = 0
        self.pace = source.choice((1, 1, 3, EDGE // 200 if self.great else 20))

    def often(self, share):
        return self.source.random() < share

    def channel(self):
        return self.source.randrange(self.most) if self.often(0.98) else self.source.choice((63, 64, 65, TOP))

    def measured(self):
        return self.source.randrange(self.half) if self.often(0.9) else self.channel()

    def voted(self):
        return self.source.randrange(self.half, self.most) if self.often(0.9) else self.channel()

    def setting(self, *usual):
        return self.source.choice(usual if self.often(0.98) else (1, EDGE, EDGE + 1, TOP))

    def value(self):
        if self.often(0.1):
            return NONE
        if self.often(0.02):
            return self.source.choice((-EDGE, EDGE, EDGE + 1, -EDGE - 1, NONE + 1, 2 ** 63 - 1))
        near = self.source.randint(-1, 5) if self.often(0.8) else self.source.randint(-20, 20)
        return self.source.choice((near, EDGE - abs(near), abs(near) - EDGE)) if self.great else near

    def time(self):
        self.clock = min(EDGE, self.clock + self.source.randint(0, self.pace))
        if self.often(0.03):
            return max(0, self.clock - self.source.randint(0, 5 * self.pace))
        if self.often(0.01):
            return self.source.choice((EDGE, EDGE + 1, TOP))
        return self.clock

    def set_up(self, c):
        if self.great:
            bounds = self.source.choice(((-EDGE, EDGE), (-EDGE, EDGE), (0, EDGE), (EDGE - 4, EDGE), (0, 4)))
        else:
            bounds = self.source.choice(((0, 4), (0, 4), (-9, 9), (-EDGE, EDGE), (3, 3)))
        if self.often(0.03):
            bounds = self.source.choice(((1, 0), (NONE, 0), (0, EDGE + 1)))
        steps = (0, 0, 500000, 1000000, 333333, 1, EDGE) if self.great else (0, 0, 500000, 1000000, 333333)
        olds = (0, 0, 4, 10 * self.pace)
        return set_up(c, *bounds, self.setting(*steps), self.setting(0, 0, 0, 1, 2, 3),
                      self.setting(*olds), self.setting(*olds))

    def vote(self, c, below):
        """A vote, mostly of different channels below this one."""
        count = min(below, self.source.choice((2, 2, 3, 3, 3, 4, 5, 16)))
        channels = self.source.sample(range(below), count)
        if self.often(0.05):
            channels = [self.channel() for _ in range(self.source.choice((0, 1, 2, 3, 16, 17, 40)))]
        weights = (1, 1, 1, 1, 2, 2, 3, 50, 99, 100) if self.often(0.97) else (0, 1, 101)
        members = [(member, self.source.choice(weights)) for member in channels]
        return vote(c, *members, tolerance=self.setting(0, 1, 2, 5, EDGE if self.great else 3))

    def call(self):
        if self.often(0.0005):
            return begin()
        if self.often(0.005):
            return clear(self.channel())
        kind = self.source.choice((1, 2, 3) + (5,) * 12 + (6,) * 6 + (7,) * 3 + (8,))
        if kind == 1:
            return self.set_up(self.measured())
        if kind == 2:
            return stand(self.measured(), self.channel() if self.often(0.8) else 64)
        if kind == 3:
            c = self.voted()
            # A channel that comes after it can come to it; those before it seldom do.
            return self.vote(c, c if 2 <= c <= self.most and self.often(0.8) else self.most)
        if kind == 5:
            return came(self.measured(), self.time(), self.value())
        if kind == 6:
            return now(self.channel(), self.time())
        return out(self.voted(), self.time()) if kind == 7 else look(self.channel())

    def calls(self):
        """Up to 300 calls; at first channels are set up and voted, or most of the rest would be refused."""
        first = [self.set_up(c) for c in range(self.half)]
        first += [self.vote(c, self.half) for c in range(self.half, self.most)]
        return first + [self.call() for _ in range(self.source.randint(1, 300 - len(first)))]


# What each call's first number can be; of what is judged and believed, all but what comes about seldom.
JUDGED = (0, 2, 4, 8, 10, 12, 16, 18, 20, 24, 26, 28, 128)
OFTEN = (0, 2, 4, 8, 10, 12, 16, 18, 20, 128)
BELIEVED = [quality + more for quality in OFTEN for more in (0, 1, 64, 65) if (quality, more) != (0, 64)]
TOLD = {
    0: (0,), 1: (0, 1, -1, -4), 2: (0, -1, -2, -3), 3: (0, -1, -2, -3, -4), 4: (0, -1, -2, -4),
    5: (-1, -2, -4, *JUDGED), 6: (-1, -2, *BELIEVED), 7: (-1, -2, 0, 1, 2), 8: (0, 1, -1, -2),
}


class AgainstTheModel(unittest.TestCase):
    def test_many_lists(self):
        seen = {}
        for seed in range(1500):
            calls = Caller(random.Random(seed)).calls()
            model = Model()
            expected = [model.answer(call) for call in calls]
            told = answers(joined(calls))
            self.assertEqual(split(told), expected, seed)
            self.assertEqual(told, joined([len(answer), *answer] for answer in expected), seed)
            for call, answer in zip(calls, expected):
                seen[(call[0], answer[0])] = True
        # Each of these came about, or the lists would show less than they seem to.
        missing = [(kind, number) for kind in TOLD for number in TOLD[kind] if (kind, number) not in seen]
        self.assertEqual(missing, [])


if __name__ == "__main__":
    unittest.main()
