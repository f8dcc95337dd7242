"""Many lists of calls, answered as a second, slower telling of promises 1 to 5 answers them."""

import random
import unittest

from helper import EDGE, NONE, TOP, begin, clear, joined, set_up, stand, vote
from trustvote.channels import answers


class Model:
    """Channels as a dict: of each its kind, and the list of those it leans on."""

    def __init__(self):
        self.kinds = {}
        self.leans = {}

    def reaches(self, start, goal):
        reached = {start}
        for _ in range(64):
            for c in list(reached):
                reached.update(self.leans[c])
        return goal in reached

    def begin(self):
        self.kinds.clear()
        self.leans.clear()
        return 0

    def set_up(self, c, least, greatest, step, same, old, hold):
        good = c < 64 and -EDGE <= least <= greatest <= EDGE
        if not good or any(number > EDGE for number in (step, same, old, hold)):
            return -1
        if self.kinds.get(c) == "voted":
            return -4
        if c in self.kinds:
            return 1
        self.kinds[c] = "measured"
        self.leans[c] = []
        return 0

    def stand(self, c, s):
        if c >= 64 or s >= 65:
            return -1
        if self.kinds.get(c) != "measured" or (s != 64 and s not in self.kinds):
            return -2
        if s != 64 and self.reaches(s, c):
            return -3
        self.leans[c] = [] if s == 64 else [s]
        return 0

    def vote(self, c, tolerance, *row):
        row = row[1:]
        members, weights = row[::2], row[1::2]
        fits = c < 64 and tolerance <= EDGE and 2 <= len(members) <= 16 and max(members) < 64
        if not fits or not all(1 <= weight <= 100 for weight in weights) or len(set(members)) < len(members):
            return -1
        if self.kinds.get(c) == "measured":
            return -4
        if not set(members) <= set(self.kinds):
            return -2
        if any(self.reaches(member, c) for member in members):
            return -3
        self.kinds[c] = "voted"
        self.leans[c] = list(members)
        return 0

    def clear(self, c):
        if c >= 64:
            return -1
        if c not in self.kinds:
            return -2
        if any(c in leaned for leaned in self.leans.values()):
            return -4
        self.kinds.pop(c)
        self.leans.pop(c)
        return 0

    def answer(self, call):
        ways = (self.begin, self.set_up, self.stand, self.vote, self.clear)
        return ways[call[0]](*call[1:])


def some_call(source, most):
    """A call on channels up to most, mostly one that could be carried out."""
    def channel():
        return source.randrange(most) if source.random() < 0.97 else source.choice((63, 64, 65, TOP))

    def setting():
        return 0 if source.random() < 0.97 else source.choice((1, EDGE, EDGE + 1, TOP))

    kind = source.choice((1, 1, 2, 2, 2, 3, 3, 4)) if source.random() < 0.99 else 0
    if kind == 0:
        return begin()
    if kind == 1:
        least, greatest = source.choice(((0, 9), (0, 9), (5, 5), (-EDGE, EDGE), (1, 0), (NONE, 0), (0, EDGE + 1)))
        return set_up(channel(), least, greatest, setting(), setting(), setting(), setting())
    if kind == 2:
        return stand(channel(), channel() if source.random() < 0.8 else 64)
    if kind == 3:
        count = source.choice((1, 2, 2, 2, 3, 3, 4)) if source.random() < 0.97 else source.choice((0, 16, 17, 40))
        weights = (1, 2, 50, 100, 100, 1, 1, 1, 1, 1, 1, 1, 1, 1, 0, 101)
        members = [(channel(), source.choice(weights)) for _ in range(count)]
        return vote(channel(), *members, tolerance=setting())
    return clear(channel())


class AgainstTheModel(unittest.TestCase):
    def test_many_lists(self):
        seen = {}
        for seed in range(300):
            source = random.Random(seed)
            most = source.choice((4, 8, 12, 64))
            calls = [some_call(source, most) for _ in range(source.randint(1, 300))]
            model = Model()
            expected = [model.answer(call) for call in calls]
            self.assertEqual(answers(joined(calls)), joined([1, number] for number in expected), seed)
            for call, number in zip(calls, expected):
                seen[(call[0], number)] = True
        # Each answer of each call came about, or the lists would show less than they seem to.
        told = {0: (0,), 1: (0, 1, -1, -4), 2: (0, -1, -2, -3), 3: (0, -1, -2, -3, -4), 4: (0, -1, -2, -4)}
        self.assertEqual(sorted(seen), sorted((kind, number) for kind in told for number in told[kind]))


if __name__ == "__main__":
    unittest.main()
