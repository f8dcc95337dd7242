"""A refused call changes nothing, as now, out and look show."""

import unittest

from helper import EDGE, NONE, TOP, ask, came, clear, last, look, now, out, set_up, stand, vote

# 0 is measured with every limit, 1 stands in for it; 2 and 3 are measured; 5 is voted by 2, 3 and 1.
BEFORE = [
    set_up(0, 10, 90, 2, 3, 40, 50), set_up(1, old=1000), set_up(2), set_up(3), stand(0, 1),
    vote(5, (2, 30), (3, 30), (1, 35), tolerance=4),
    came(0, 5, 50), came(0, 6, 50), came(1, 5, 20), came(2, 5, 60), came(3, 5, 63),
]
# What is asked of 0 shows in what is judged of these, one behind another.
JUDGED = [
    came(0, 6, 50), came(0, 7, 10), came(0, 7, 9), came(0, 7, 90), came(0, 7, 91), came(0, 1000006, 52),
    came(0, 2000006, 55),
]
SHOWN = [now(c, t) for c in (0, 1, 2, 3, 5) for t in (0, 6, 46, 47, 56, 57, EDGE)]
SHOWN += [out(5, 6)] + [look(c) for c in range(64)]
SHOWN += [*JUDGED, look(0), now(0, 2000006), stand(0, 64), now(0, 1000056), now(0, 1000057)]

REFUSED = (
    (-1, set_up(0, 0, EDGE + 1)),
    (-1, set_up(0, -EDGE - 1, 1000)),
    (-1, set_up(0, NONE, 1000)),
    (-1, set_up(0, 70, 60)),
    (-1, set_up(0, 0, 1000, EDGE + 1)),
    (-1, set_up(0, 0, 1000, 0, EDGE + 1)),
    (-1, set_up(0, 0, 1000, 0, 0, EDGE + 1)),
    (-1, set_up(0, 0, 1000, 0, 0, 0, EDGE + 1)),
    (-1, set_up(64)),
    (-4, set_up(5)),
    (-1, stand(0, 65)),
    (-1, stand(64, 0)),
    (-2, stand(0, 7)),
    (-2, stand(5, 0)),
    (-2, stand(7, 0)),
    (-3, stand(0, 0)),
    (-3, stand(1, 0)),
    (-3, stand(2, 5)),
    (-1, vote(5, (2, 1), (3, 0))),
    (-1, vote(5, (2, 1), (3, 101))),
    (-1, vote(5, (2, 1), (2, 1))),
    (-1, vote(5, (2, 1), (64, 1))),
    (-1, vote(5, 2)),
    (-1, vote(5, (2, 1), (3, 1), tolerance=EDGE + 1)),
    (-1, vote(64, 2, 3)),
    (-4, vote(0, 2, 3)),
    (-2, vote(5, (2, 1), (7, 1), tolerance=90)),
    (-2, vote(6, (2, 1), (7, 1))),
    (-3, vote(5, (2, 1), (5, 1), tolerance=90)),
    (-1, clear(64)),
    (-2, clear(7)),
    (-4, clear(1)),
    (-4, clear(2)),
    (-1, came(0, EDGE + 1, 50)),
    (-1, came(0, 8, EDGE + 1)),
    (-1, came(0, 8, -EDGE - 1)),
    (-1, came(0, 8, 2 ** 63 - 1)),
    (-1, came(64, 8, 50)),
    (-2, came(5, 8, 50)),
    (-2, came(7, 8, 50)),
    (-4, came(0, 5, 50)),
    (-4, came(0, 5, 51)),
    (-4, came(0, 5, NONE)),
    (-4, came(0, 0, 99)),
    (-1, now(64, 0)),
    (-1, now(0, EDGE + 1)),
    (-2, now(7, 0)),
    (-1, out(64, 0)),
    (-1, out(5, TOP)),
    (-2, out(0, 0)),
    (-2, out(7, 0)),
    (-1, look(64)),
    (-2, look(7)),
)

# Each changes something that must show, or the test below would pass whatever a refused call did.
TAKEN = (
    set_up(0, 11, 90, 2, 3, 40, 50), set_up(0, 10, 89, 2, 3, 40, 50), set_up(0, 10, 90, 3, 3, 40, 50),
    set_up(0, 10, 90, 2, 4, 40, 50), set_up(0, 10, 90, 2, 3, 41, 50), set_up(0, 10, 90, 2, 3, 40, 51),
    stand(0, 2), stand(0, 64), stand(1, 2), vote(5, (2, 30), (3, 30), (1, 36), tolerance=4),
    vote(5, (2, 30), (3, 30), (1, 35), tolerance=2), vote(5, (2, 30), (3, 30), tolerance=4), vote(6, 2, 3),
    clear(5), came(0, 6, 50), came(0, 6, 51), came(0, 6, NONE),
)


def shown(*calls):
    return ask(*BEFORE, *calls, *SHOWN)[-len(SHOWN):]


class Refused(unittest.TestCase):
    def test_refused_calls_change_nothing(self):
        before = shown()
        for number, call in REFUSED:
            self.assertEqual(last(*BEFORE, call), number, call)
            self.assertEqual(shown(call), before, call)

    def test_all_of_them_together(self):
        calls = [call for number, call in REFUSED]
        told = ask(*BEFORE, *calls, *SHOWN)
        self.assertEqual(told[len(BEFORE):len(BEFORE) + len(calls)], [number for number, call in REFUSED])
        self.assertEqual(told[-len(SHOWN):], shown())

    def test_what_is_taken_shows(self):
        before = shown()
        for call in TAKEN:
            self.assertNotEqual(shown(call), before, call)

    def test_a_vote_over_them_as_it_was(self):
        calls = [*BEFORE, vote(5, (2, 1), (7, 1), tolerance=90)]
        self.assertEqual(ask(*calls, now(5, 6), out(5, 6))[-2:], [[0, 62, 631], [1, 1]])


if __name__ == "__main__":
    unittest.main()
