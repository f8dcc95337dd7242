"""Promise 4: vote."""

import unittest

from helper import EDGE, TOP, ask, clear, last, set_all, set_up, stand, vote

ALL = set_all(*range(40))


class Vote(unittest.TestCase):
    def refused(self, call):
        """It answers -1, and channel 50 isn't there after it."""
        self.assertEqual(last(*ALL, call), -1)
        self.assertEqual(last(*ALL, call, clear(50)), -2)
        self.assertEqual(last(*ALL, call, clear(0)), 0)

    def test_it_is_voted(self):
        calls = [*set_all(0, 1), vote(2, 0, 1)]
        self.assertEqual(last(*calls), 0)
        self.assertEqual(last(*calls, set_up(2)), -4)
        self.assertEqual(last(*calls, clear(0)), -4)
        self.assertEqual(last(*calls, clear(1)), -4)
        self.assertEqual(last(*calls, clear(2)), 0)

    def test_a_voted_member(self):
        calls = [*set_all(0, 1), vote(2, 0, 1), vote(3, 2, 0)]
        self.assertEqual(last(*calls), 0)
        self.assertEqual(last(*calls, clear(2)), -4)

    def test_channel_at_the_edges(self):
        self.assertEqual(last(*ALL, vote(63, 0, 1)), 0)
        self.assertEqual(last(*set_all(1, 2), vote(0, 1, 2)), 0)
        for c in (64, 65, 2 ** 63, TOP):
            self.assertEqual(last(*ALL, vote(c, 0, 1)), -1)

    def test_tolerance_at_the_edges(self):
        self.assertEqual(last(*ALL, vote(50, 0, 1, tolerance=0)), 0)
        self.assertEqual(last(*ALL, vote(50, 0, 1, tolerance=EDGE)), 0)
        self.refused(vote(50, 0, 1, tolerance=EDGE + 1))
        self.refused(vote(50, 0, 1, tolerance=TOP))

    def test_how_many_members(self):
        self.refused(vote(50))
        self.refused(vote(50, 0))
        self.assertEqual(last(*ALL, vote(50, *range(2))), 0)
        self.assertEqual(last(*ALL, vote(50, *range(3))), 0)
        self.assertEqual(last(*ALL, vote(50, *range(16))), 0)
        self.refused(vote(50, *range(17)))
        self.refused(vote(50, *range(40)))

    def test_each_of_sixteen_is_leaned_on(self):
        for c in range(16):
            self.assertEqual(last(*ALL, vote(50, *range(16)), clear(c)), -4)
        self.assertEqual(last(*ALL, vote(50, *range(16)), clear(16)), 0)

    def test_the_call_behind_a_vote_is_found(self):
        for count in (0, 1, 2, 16, 17, 40):
            self.assertEqual(last(*ALL, vote(50, *range(count)), set_up(51)), 0)

    def test_members_at_the_edges(self):
        calls = set_all(0, 1, 63)
        self.assertEqual(last(*calls, vote(2, 0, 63)), 0)
        self.assertEqual(last(*calls, vote(2, 63, 0)), 0)
        for member in (64, 65, 2 ** 63, TOP):
            self.refused(vote(50, 0, member))
            self.refused(vote(50, member, 0))

    def test_weights_at_the_edges(self):
        self.assertEqual(last(*ALL, vote(50, (0, 1), (1, 1))), 0)
        self.assertEqual(last(*ALL, vote(50, (0, 100), (1, 100))), 0)
        for weight in (0, 101, 2 ** 63, TOP):
            self.refused(vote(50, (0, weight), (1, 1)))
            self.refused(vote(50, (0, 1), (1, weight)))

    def test_weights_are_no_channels(self):
        # Equal weights are no channel twice, and a weight needs no channel of its number.
        self.assertEqual(last(*set_all(0, 1), vote(2, (0, 77), (1, 77))), 0)

    def test_a_channel_twice(self):
        self.refused(vote(50, 0, 0))
        self.refused(vote(50, (0, 1), (0, 2)))
        self.refused(vote(50, 0, 1, 0))
        self.refused(vote(50, *range(15), 0))
        self.refused(vote(50, *range(15), 14))

    def test_refused_if_measured(self):
        self.assertEqual(last(*ALL, vote(5, 0, 1)), -4)
        self.assertEqual(last(*ALL, vote(5, 0, 1), set_up(5)), 1)
        self.assertEqual(last(*ALL, vote(5, 0, 1), clear(0)), 0)

    def test_a_member_is_not_there(self):
        self.assertEqual(last(set_up(0), vote(2, 0, 1)), -2)
        self.assertEqual(last(set_up(1), vote(2, 0, 1)), -2)
        self.assertEqual(ask(vote(2, 0, 1)), [-2])
        self.assertEqual(last(*ALL, vote(50, *range(15), 40)), -2)
        self.assertEqual(last(*ALL, vote(50, *range(15), 40), clear(50)), -2)
        self.assertEqual(last(*ALL, clear(7), vote(50, 6, 7)), -2)

    def test_itself_as_a_member(self):
        # As long as it isn't there it's no member; from then on it comes to itself.
        self.assertEqual(last(*set_all(0, 1), vote(2, 2, 0)), -2)
        self.assertEqual(last(*set_all(0, 1), vote(2, 0, 1), vote(2, 2, 0)), -3)
        self.assertEqual(last(*set_all(0, 1), vote(2, 0, 1), vote(2, 0, 2)), -3)

    def test_anew_with_other_members(self):
        calls = [*set_all(0, 1, 2), vote(3, 0, 1), vote(3, 1, 2)]
        self.assertEqual(last(*calls), 0)
        self.assertEqual(last(*calls, clear(0)), 0)
        self.assertEqual(last(*calls, clear(1)), -4)
        self.assertEqual(last(*calls, clear(2)), -4)
        self.assertEqual(last(*calls, stand(0, 3)), 0)
        self.assertEqual(last(*calls, stand(2, 3)), -3)

    def test_anew_with_the_same_members(self):
        calls = [*set_all(0, 1), vote(2, 0, 1), vote(2, (1, 5), (0, 9), tolerance=8)]
        self.assertEqual(last(*calls), 0)
        self.assertEqual(last(*calls, clear(0)), -4)

    def test_anew_though_another_leans_on_it(self):
        calls = [*set_all(0, 1, 2, 4), vote(3, 0, 1), stand(4, 3), vote(3, 1, 2)]
        self.assertEqual(last(*calls), 0)
        self.assertEqual(last(*calls, clear(3)), -4)
        self.assertEqual(last(*calls, vote(3, 0, 4)), -3)

    def test_a_channel_changes_its_kind_by_a_clear(self):
        self.assertEqual(last(*set_all(0, 1, 2), vote(2, 0, 1)), -4)
        self.assertEqual(last(*set_all(0, 1, 2), clear(2), vote(2, 0, 1)), 0)
        self.assertEqual(last(*set_all(0, 1), vote(2, 0, 1), clear(2), set_up(2)), 0)


class OrderOfRefusals(unittest.TestCase):
    def test_not_allowed_comes_first(self):
        bad = [
            dict(members=(5, 6), tolerance=EDGE + 1),
            dict(members=(6,)),
            dict(members=tuple(range(6, 23))),
            dict(members=(6, 64)),
            dict(members=((6, 0), 7)),
            dict(members=((6, 101), 7)),
            dict(members=(6, 6)),
        ]
        for case in bad:
            members = case["members"]
            tolerance = case.get("tolerance", 0)
            # c is measured, and members that aren't there.
            self.assertEqual(last(set_up(0), vote(0, *members, tolerance=tolerance)), -1, case)
            # Members that aren't there alone.
            self.assertEqual(ask(vote(0, *members, tolerance=tolerance)), [-1], case)
        voted = [*set_all(0, 1), vote(2, 0, 1)]
        self.assertEqual(last(*voted, vote(2, 2, 2)), -1)
        self.assertEqual(last(*voted, vote(2, 2, (0, 0))), -1)
        self.assertEqual(ask(vote(64, 0, 1)), [-1])

    def test_measured_ahead_of_members_that_are_not_there(self):
        self.assertEqual(last(set_up(0), vote(0, 1, 2)), -4)

    def test_measured_ahead_of_members_that_come_to_it(self):
        self.assertEqual(last(*set_all(0, 1), vote(0, 0, 1)), -4)
        self.assertEqual(last(*set_all(0, 1, 2), stand(1, 0), vote(0, 1, 2)), -4)

    def test_not_there_ahead_of_coming_to_it(self):
        voted = [*set_all(0, 1), vote(2, 0, 1)]
        self.assertEqual(last(*voted, vote(2, 2, 9)), -2)
        self.assertEqual(last(*voted, vote(2, 9, 2)), -2)

    def test_a_refused_vote_changes_nothing(self):
        before = [*set_all(0, 1, 3, 4), vote(2, 0, 1), stand(4, 2)]
        refused = (
            (vote(2, 3, 3), -1), (vote(2, 3), -1), (vote(2, 3, (1, 0)), -1), (vote(2, 3, 9), -2),
            (vote(2, 3, 2), -3), (vote(2, 3, 4), -3), (vote(3, 0, 1), -4),
        )
        for call, answer in refused:
            self.assertEqual(last(*before, call), answer)
            self.assertEqual(ask(*before, call, clear(0), clear(1), clear(3))[-3:], [-4, -4, 0], call)
            self.assertEqual(last(*before, call, set_up(2)), -4)
            self.assertEqual(last(*before, call, set_up(3)), 1)


if __name__ == "__main__":
    unittest.main()
