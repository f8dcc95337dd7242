"""Promise 8: out."""

import unittest

from helper import EDGE, NONE, TOP, ask, begin, came, clear, last, now, out, set_all, set_up, stand, vote


class Refusals(unittest.TestCase):
    def setUp(self):
        self.calls = [*set_all(0, 1), vote(5, 0, 1)]

    def test_channel_at_the_edges(self):
        for c in (63, 64, 65, 2 ** 32, 2 ** 63, TOP):
            self.assertEqual(last(*self.calls, vote(63, 0, 1), out(c, 0)), 0 if c == 63 else -1)

    def test_time_at_the_edges(self):
        self.assertEqual(last(*self.calls, out(5, 0)), 0)
        self.assertEqual(last(*self.calls, out(5, EDGE)), 0)
        for t in (EDGE + 1, 2 ** 63, TOP):
            self.assertEqual(last(*self.calls, out(5, t)), -1)

    def test_a_channel_that_is_not_there(self):
        self.assertEqual(last(out(5, 0)), -2)
        self.assertEqual(last(*self.calls, out(6, 0)), -2)
        self.assertEqual(last(*self.calls, clear(5), out(5, 0)), -2)
        self.assertEqual(last(*self.calls, begin(), out(5, 0)), -2)

    def test_a_measured_channel(self):
        self.assertEqual(last(*self.calls, out(0, 0)), -2)
        self.assertEqual(last(*self.calls, came(0, 0, 1), out(0, 0)), -2)
        self.assertEqual(last(*self.calls, stand(0, 1), out(0, 0)), -2)

    def test_not_allowed_is_told_ahead_of_not_voted(self):
        self.assertEqual(last(out(5, EDGE + 1)), -1)
        self.assertEqual(last(*self.calls, out(0, EDGE + 1)), -1)


class Out(unittest.TestCase):
    def out(self, values, order=None, weights=None, tolerance=0):
        """What is out, where these values came of the channels 0, 1 and so on; None where nothing came."""
        calls = [set_up(c, -EDGE, EDGE, old=10) for c in range(len(values))]
        calls += [came(c, 0, value) for c, value in enumerate(values) if value is not None]
        order = range(len(values)) if order is None else order
        weights = [1] * len(values) if weights is None else weights
        members = [(c, weights[c]) for c in order]
        return last(*calls, vote(63, *members, tolerance=tolerance), out(63, 10))

    def test_none(self):
        self.assertEqual(self.out([7, 7, 7]), 0)
        self.assertEqual(self.out([7, 8, 9], tolerance=1), 0)

    def test_some(self):
        self.assertEqual(self.out([7, 7, 8]), [1, 2])
        self.assertEqual(self.out([8, 7, 7]), [1, 0])
        self.assertEqual(self.out([6, 7, 8, 7, 7]), [2, 0, 2])

    def test_just_at_the_tolerance_and_one_beyond(self):
        self.assertEqual(self.out([7, 7, 10], tolerance=3), 0)
        self.assertEqual(self.out([7, 7, 11], tolerance=3), [1, 2])
        self.assertEqual(self.out([7, 7, 4], tolerance=3), 0)
        self.assertEqual(self.out([7, 7, 3], tolerance=3), [1, 2])

    def test_in_the_order_of_the_members_as_they_were_told(self):
        values = [90, 50, 50, 50, 10, 70, 30]
        self.assertEqual(self.out(values), [4, 0, 4, 5, 6])
        self.assertEqual(self.out(values, order=[6, 5, 4, 3, 2, 1, 0]), [4, 6, 5, 4, 0])
        self.assertEqual(self.out(values, order=[5, 1, 0, 3, 6, 2, 4]), [4, 5, 0, 6, 4])

    def test_where_nothing_is_decided_too(self):
        self.assertEqual(self.out([1, 2]), [1, 1])
        self.assertEqual(self.out([2, 1]), [1, 0])
        self.assertEqual(self.out([1, 2, 3]), [2, 0, 2])
        self.assertEqual(self.out([5, 6, None, None, None]), [1, 1])

    def test_of_no_values(self):
        self.assertEqual(self.out([None, None]), 0)
        self.assertEqual(self.out([NONE, None, NONE]), 0)
        self.assertEqual(self.out([NONE, NONE], tolerance=EDGE), 0)

    def test_those_without_a_value_are_not_out(self):
        self.assertEqual(self.out([7, None, 7, NONE, 8]), [1, 4])

    def test_the_middle_by_weight(self):
        self.assertEqual(self.out([7, 9], weights=[1, 1]), [1, 1])
        self.assertEqual(self.out([7, 9], weights=[1, 2]), [1, 0])
        self.assertEqual(self.out([7, 8, 9], weights=[10, 1, 9]), [2, 1, 2])
        self.assertEqual(self.out([7, 8, 9], weights=[9, 1, 10]), [2, 0, 2])
        self.assertEqual(self.out([7, 8, 9], weights=[9, 1, 11]), [2, 0, 1])

    def test_most_members(self):
        self.assertEqual(self.out([0] * 9 + [1] * 7), [7, 9, 10, 11, 12, 13, 14, 15])
        self.assertEqual(self.out([1] + [0] * 15, weights=[100] + [1] * 15), [15, *range(1, 16)])

    def test_at_the_edges_of_values(self):
        self.assertEqual(self.out([-EDGE, EDGE, EDGE], tolerance=EDGE), [1, 0])
        self.assertEqual(self.out([-EDGE, 0, EDGE], tolerance=EDGE), 0)
        self.assertEqual(self.out([-EDGE, 0, EDGE], tolerance=EDGE - 1), [2, 0, 2])

    def test_those_that_are_not_good_are_not_out(self):
        calls = [set_up(0), set_up(1), set_up(2, hold=9), set_up(3), set_up(4, old=9), vote(63, 0, 1, 2, 3, 4)]
        calls += [came(0, 0, 50), came(1, 0, 50), came(2, 0, 90), came(2, 0, 101), came(4, 0, 80), stand(3, 4)]
        self.assertEqual(last(*calls, now(2, 9)), [68, 90, 250])
        self.assertEqual(last(*calls, now(3, 9)), [65, 80, 500])
        self.assertEqual(last(*calls, out(63, 9)), [1, 4])
        self.assertEqual(last(*calls, out(63, 10)), 0)
        self.assertEqual(last(*calls, came(2, 0, 90), out(63, 9)), [2, 2, 4])

    def test_votes_among_the_members(self):
        calls = [*set_all(0, 1, 2), came(0, 0, 5), came(1, 0, 5), came(2, 0, 9), vote(10, 0, 1), vote(11, 0, 2)]
        self.assertEqual(last(*calls, vote(12, 2, 10, 1, 11), out(12, 0)), [1, 2])
        self.assertEqual(last(*calls, vote(12, (2, 9), 10, 1, 11), out(12, 0)), [2, 10, 1])

    def test_asking_changes_nothing(self):
        calls = [*set_all(0, 1, 2), came(0, 0, 5), came(1, 0, 5), came(2, 0, 9), vote(10, 2, 0, 1)]
        told = ask(*calls, out(10, 0), now(10, 0), out(10, 0), now(10, 0))[-4:]
        self.assertEqual(told, [[1, 2], [0, 5, 666], [1, 2], [0, 5, 666]])


if __name__ == "__main__":
    unittest.main()
