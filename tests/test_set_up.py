"""Promise 2: set, called set_up in a list."""

import unittest

from helper import EDGE, NONE, TOP, ask, clear, last, set_all, set_up, stand, vote

OTHERS = ("step", "same", "old", "hold")


class SetUp(unittest.TestCase):
    def refused(self, call):
        """It answers -1, and channel 5 isn't there after it."""
        self.assertEqual(ask(call, clear(5)), [-1, -2])
        self.assertEqual(ask(call, set_up(5)), [-1, 0])

    def test_0_if_it_was_not_there_1_if_it_was(self):
        self.assertEqual(ask(set_up(5), set_up(5), set_up(5)), [0, 1, 1])
        self.assertEqual(ask(set_up(5), set_up(6), set_up(5), set_up(6)), [0, 0, 1, 1])

    def test_0_again_after_a_clear(self):
        self.assertEqual(ask(set_up(5), clear(5), set_up(5), set_up(5)), [0, 0, 0, 1])

    def test_channel_at_the_edges(self):
        self.assertEqual(ask(set_up(0), clear(0)), [0, 0])
        self.assertEqual(ask(set_up(63), clear(63)), [0, 0])
        for c in (64, 65, 127, 2 ** 32, 2 ** 63, TOP):
            self.assertEqual(ask(set_up(c), set_up(c)), [-1, -1])

    def test_bounds_at_the_edges(self):
        self.assertEqual(ask(set_up(5, -EDGE, EDGE), clear(5)), [0, 0])
        self.assertEqual(ask(set_up(5, -EDGE, -EDGE), clear(5)), [0, 0])
        self.assertEqual(ask(set_up(5, EDGE, EDGE), clear(5)), [0, 0])

    def test_bounds_one_beyond(self):
        self.refused(set_up(5, -EDGE - 1, 0))
        self.refused(set_up(5, 0, EDGE + 1))
        self.refused(set_up(5, EDGE + 1, EDGE + 1))
        self.refused(set_up(5, -EDGE - 1, -EDGE - 1))
        self.refused(set_up(5, EDGE + 1, 0))
        self.refused(set_up(5, 0, -EDGE - 1))
        self.refused(set_up(5, 0, 2 ** 63 - 1))

    def test_none_is_no_bound(self):
        self.refused(set_up(5, NONE, 0))
        self.refused(set_up(5, 0, NONE))
        self.refused(set_up(5, NONE, NONE))

    def test_greatest_equal_to_least_or_below_it(self):
        for least in (-7, 0, 7):
            self.assertEqual(ask(set_up(5, least, least + 1)), [0])
            self.assertEqual(ask(set_up(5, least, least)), [0])
            self.refused(set_up(5, least, least - 1))
        self.refused(set_up(5, EDGE, -EDGE))

    def test_the_others_at_the_edges(self):
        for name in OTHERS:
            self.assertEqual(ask(set_up(5, **{name: 1}), clear(5)), [0, 0], name)
            self.assertEqual(ask(set_up(5, **{name: EDGE}), clear(5)), [0, 0], name)
        self.assertEqual(ask(set_up(5, 0, 0, EDGE, EDGE, EDGE, EDGE)), [0])

    def test_the_others_one_above(self):
        for name in OTHERS:
            self.refused(set_up(5, **{name: EDGE + 1}))
            self.refused(set_up(5, **{name: TOP}))

    def test_refused_if_voted(self):
        voted = [*set_all(0, 1), vote(2, 0, 1)]
        self.assertEqual(ask(*voted, set_up(2))[-1], -4)
        # It is voted still: its members can't be cleared, it can be voted anew, none can stand in.
        self.assertEqual(last(*voted, set_up(2), clear(0)), -4)
        self.assertEqual(last(*voted, set_up(2), vote(2, 1, 0)), 0)
        self.assertEqual(last(*voted, set_up(2), stand(2, 0)), -2)

    def test_not_allowed_is_told_ahead_of_voted(self):
        voted = [*set_all(0, 1), vote(2, 0, 1)]
        for call in (set_up(2, 1, 0), set_up(2, NONE, 0), set_up(2, 0, EDGE + 1), set_up(2, hold=EDGE + 1)):
            self.assertEqual(last(*voted, call), -1)

    def test_who_stands_in_stays(self):
        calls = [*set_all(0, 1), stand(0, 1), set_up(0, -5, 5, 1, 2, 3, 4)]
        self.assertEqual(last(*calls), 1)
        self.assertEqual(last(*calls, clear(1)), -4)
        self.assertEqual(last(*calls, stand(1, 0)), -3)
        self.assertEqual(last(*calls, stand(0, 64), clear(1)), 0)

    def test_who_it_stands_in_for_stays(self):
        calls = [*set_all(0, 1), stand(0, 1), set_up(1, -5, 5)]
        self.assertEqual(last(*calls), 1)
        self.assertEqual(last(*calls, clear(1)), -4)

    def test_a_refused_set_leaves_a_channel_as_it_was(self):
        for call in (set_up(0, 1, 0), set_up(0, NONE, 0), set_up(0, step=EDGE + 1)):
            calls = [*set_all(0, 1), stand(0, 1), call]
            self.assertEqual(last(*calls), -1)
            self.assertEqual(last(*calls, clear(1)), -4)
            self.assertEqual(last(*calls, set_up(0)), 1)

    def test_a_member_that_is_set_anew_stays_a_member(self):
        calls = [*set_all(0, 1), vote(2, 0, 1), set_up(0, 3, 4)]
        self.assertEqual(last(*calls), 1)
        self.assertEqual(last(*calls, clear(0)), -4)


if __name__ == "__main__":
    unittest.main()
