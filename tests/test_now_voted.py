"""Promise 7: now, of voted channels."""

import unittest

from helper import EDGE, NONE, ask, came, last, now, set_all, set_up, stand, vote

VOTE = 63


def voted(*members, tolerance=0, asked=now):
    """What is told of a vote over members: of each its value, or None where nothing came, and its weight."""
    calls = [set_up(c, -EDGE, EDGE) for c in range(len(members))]
    calls += [came(c, 0, value) for c, (value, weight) in enumerate(members) if value is not None]
    weights = [(c, weight) for c, (value, weight) in enumerate(members)]
    return last(*calls, vote(VOTE, *weights, tolerance=tolerance), asked(VOTE, 0))


class Agreeing(unittest.TestCase):
    def test_all_the_same(self):
        self.assertEqual(voted((7, 1), (7, 1)), [0, 7, 1000])
        self.assertEqual(voted((7, 3), (7, 100), (7, 1)), [0, 7, 1000])
        self.assertEqual(voted(*[(-7, 100)] * 16), [0, -7, 1000])

    def test_just_at_the_tolerance_and_one_beyond(self):
        for sign in (1, -1):
            at = voted((sign * 10, 1), (sign * 10, 1), (sign * 13, 1), tolerance=3)
            self.assertEqual(at, [0, sign * 11, 1000])
            beyond = voted((sign * 10, 1), (sign * 10, 1), (sign * 14, 1), tolerance=3)
            self.assertEqual(beyond, [0, sign * 10, 666])

    def test_the_tolerance_reaches_below_and_above(self):
        self.assertEqual(voted((5, 1), (10, 1), (15, 1), tolerance=5), [0, 10, 1000])
        self.assertEqual(voted((4, 1), (10, 1), (15, 1), tolerance=5), [0, 13, 666])
        self.assertEqual(voted((5, 1), (10, 1), (16, 1), tolerance=5), [0, 8, 666])
        self.assertEqual(voted((4, 1), (10, 1), (16, 1), tolerance=5), [128, NONE, 333])

    def test_a_tolerance_of_0(self):
        self.assertEqual(voted((10, 1), (10, 1), (11, 1)), [0, 10, 666])
        self.assertEqual(voted((10, 1), (11, 1)), [128, NONE, 500])

    def test_the_greatest_tolerance(self):
        self.assertEqual(voted((0, 1), (EDGE, 1), tolerance=EDGE), [0, EDGE // 2, 1000])
        self.assertEqual(voted((0, 1), (EDGE, 1), tolerance=EDGE - 1), [128, NONE, 500])
        self.assertEqual(voted((-EDGE, 1), (EDGE, 1), tolerance=EDGE), [128, NONE, 500])
        self.assertEqual(voted((-1, 1), (EDGE, 1), tolerance=EDGE), [128, NONE, 500])

    def test_measured_from_the_middle_not_from_the_mean(self):
        # The mean of all is 30; only the middle, 10, has the others within 5.
        self.assertEqual(voted((10, 1), (12, 1), (8, 1), (90, 1), tolerance=5), [0, 10, 750])


class Middle(unittest.TestCase):
    def test_just_half_is_reached(self):
        # 10 alone is half of the weight: it is the middle, and 12 is too far from it.
        self.assertEqual(voted((10, 2), (11, 1), (12, 1), tolerance=1), [0, 10, 750])
        self.assertEqual(voted((10, 49), (11, 25), (12, 25), tolerance=1), [0, 11, 1000])
        self.assertEqual(voted((10, 50), (11, 25), (12, 25), tolerance=1), [0, 10, 750])

    def test_of_two_with_equal_weights_the_lower(self):
        self.assertEqual(voted((10, 1), (20, 1), (30, 1), (40, 1), tolerance=10), [0, 20, 750])
        self.assertEqual(voted((10, 1), (20, 1), (20, 1), (40, 1), tolerance=9), [128, NONE, 500])

    def test_one_less_than_half_is_not(self):
        # 99 of 199 come with 0; 100 is needed, so the middle is 5.
        self.assertEqual(voted((0, 99), (5, 100)), [0, 5, 502])
        self.assertEqual(voted((0, 100), (5, 99)), [0, 0, 502])
        self.assertEqual(voted((0, 100), (5, 100)), [128, NONE, 500])

    def test_the_order_of_members_does_not_matter(self):
        for members in (
            [(30, 1), (10, 2), (20, 2)], [(10, 2), (20, 2), (30, 1)], [(20, 2), (30, 1), (10, 2)],
            [(30, 1), (20, 2), (10, 2)],
        ):
            self.assertEqual(voted(*members, tolerance=10), [0, 18, 1000])
            self.assertEqual(voted(*members, tolerance=9), [128, NONE, 400])

    def test_equal_values_reach_it_together(self):
        self.assertEqual(voted((10, 1), (10, 1), (10, 1), (90, 2)), [0, 10, 600])
        self.assertEqual(voted((90, 2), (10, 1), (90, 1), (10, 1)), [0, 90, 600])

    def test_below_0_and_above(self):
        self.assertEqual(voted((-5, 1), (0, 1), (5, 1), tolerance=0), [128, NONE, 333])
        self.assertEqual(voted((-5, 3), (0, 1), (5, 1), tolerance=0), [0, -5, 600])
        self.assertEqual(voted((-9, 1), (-8, 1), (3, 1), tolerance=1), [0, -9, 666])

    def test_half_of_those_that_count_not_of_all(self):
        # 10 and 20 count, with 2 and 1: the middle is 10, though half of all is reached only at 20.
        self.assertEqual(voted((10, 2), (20, 1), (None, 1), (None, 1)), [128, NONE, 400])
        self.assertEqual(voted((10, 4), (20, 3), (None, 2)), [128, NONE, 444])
        self.assertEqual(voted((10, 3), (20, 2), (None, 2), tolerance=10), [0, 14, 714])


class Weights(unittest.TestCase):
    def test_two_w_just_as_much_as_all_and_more(self):
        self.assertEqual(voted((1, 50), (9, 50)), [128, NONE, 500])
        self.assertEqual(voted((1, 51), (9, 50)), [0, 1, 504])
        self.assertEqual(voted((1, 50), (9, 49)), [0, 1, 505])
        self.assertEqual(voted((1, 1), (1, 1), (9, 1), (8, 1)), [128, NONE, 500])
        self.assertEqual(voted((1, 1), (1, 2), (9, 1), (8, 1)), [0, 1, 600])

    def test_less_than_half_agree(self):
        self.assertEqual(voted((1, 1), (2, 1), (3, 1)), [128, NONE, 333])
        self.assertEqual(voted((1, 10), (2, 1), (3, 10)), [128, NONE, 47])

    def test_sure_is_cut_off(self):
        self.assertEqual(voted((1, 2), (1, 2), (9, 2)), [0, 1, 666])
        self.assertEqual(voted((1, 100), (1, 100), (9, 1)), [0, 1, 995])

    def test_members_without_a_value_count_in_all_weights(self):
        self.assertEqual(voted((7, 1), (7, 1), (None, 1)), [0, 7, 666])
        self.assertEqual(voted((7, 1), (7, 1), (None, 2)), [128, NONE, 500])
        self.assertEqual(voted((7, 1), (7, 2), (None, 2)), [0, 7, 600])
        self.assertEqual(voted((7, 1), (NONE, 1)), [128, NONE, 500])
        self.assertEqual(voted((7, 2), (NONE, 1)), [0, 7, 666])

    def test_of_no_values(self):
        self.assertEqual(voted((None, 1), (None, 1)), [128, NONE, 0])
        self.assertEqual(voted((NONE, 1), (None, 100)), [128, NONE, 0])
        self.assertEqual(voted((None, 1), (None, 1), tolerance=EDGE), [128, NONE, 0])


class Nearest(unittest.TestCase):
    def test_of_two_as_near_the_one_away_from_0(self):
        for low, told in ((3, 4), (0, 1), (-1, -1), (-4, -4), (-5, -5), (-2, -2), (2, 3)):
            # Halfway between low and low + 1.
            self.assertEqual(voted((low, 1), (low + 1, 1), tolerance=1), [0, told, 1000], low)

    def test_else_the_nearer(self):
        self.assertEqual(voted((0, 2), (1, 1), tolerance=1), [0, 0, 1000])
        self.assertEqual(voted((0, 1), (1, 2), tolerance=1), [0, 1, 1000])
        self.assertEqual(voted((0, 2), (-1, 1), tolerance=1), [0, 0, 1000])
        self.assertEqual(voted((0, 1), (-1, 2), tolerance=1), [0, -1, 1000])
        self.assertEqual(voted((0, 51), (1, 50), tolerance=1), [0, 0, 1000])
        self.assertEqual(voted((0, 50), (1, 51), tolerance=1), [0, 1, 1000])
        self.assertEqual(voted((0, 50), (-1, 51), tolerance=1), [0, -1, 1000])
        self.assertEqual(voted((0, 51), (-1, 50), tolerance=1), [0, 0, 1000])

    def test_each_times_its_weight(self):
        self.assertEqual(voted((10, 1), (20, 3), tolerance=10), [0, 18, 1000])
        self.assertEqual(voted((10, 3), (20, 1), tolerance=10), [0, 13, 1000])
        self.assertEqual(voted((-10, 1), (-20, 3), tolerance=10), [0, -18, 1000])

    def test_divided_by_w_not_by_all_weights(self):
        self.assertEqual(voted((10, 2), (11, 2), (90, 1), tolerance=1), [0, 11, 800])
        self.assertEqual(voted((10, 2), (12, 2), (None, 1), tolerance=2), [0, 11, 800])

    def test_near_the_edges_of_values(self):
        self.assertEqual(voted((EDGE, 100), (EDGE, 100)), [0, EDGE, 1000])
        self.assertEqual(voted((-EDGE, 100), (-EDGE, 100)), [0, -EDGE, 1000])
        self.assertEqual(voted((EDGE, 1), (EDGE - 1, 1), tolerance=1), [0, EDGE, 1000])
        self.assertEqual(voted((-EDGE, 1), (1 - EDGE, 1), tolerance=1), [0, -EDGE, 1000])
        self.assertEqual(voted((EDGE, 1), (EDGE - 1, 2), tolerance=1), [0, EDGE - 1, 1000])
        self.assertEqual(voted((-EDGE, 1), (1 - EDGE, 2), tolerance=1), [0, 1 - EDGE, 1000])
        self.assertEqual(voted(*[(EDGE - 3, 100)] * 16, tolerance=EDGE), [0, EDGE - 3, 1000])
        self.assertEqual(voted((-EDGE, 1), (EDGE, 1), (EDGE, 1), tolerance=EDGE), [0, EDGE, 666])

    def test_from_one_edge_to_the_other(self):
        spread = [(-EDGE, 1), (0, 1), (EDGE, 1)]
        self.assertEqual(voted(*spread, tolerance=EDGE), [0, 0, 1000])
        self.assertEqual(voted(*spread, tolerance=EDGE - 1), [128, NONE, 333])


class LeftOut(unittest.TestCase):
    def setUp(self):
        # Of weight 5 each: 0 and 1 agree, 2 is the one that differs in each test.
        self.calls = [*set_all(0, 1, 3), set_up(2, 0, 100, 0, 0, 10, 100), came(0, 0, 10), came(1, 0, 12)]
        self.vote = vote(VOTE, (0, 5), (1, 5), (2, 5), tolerance=9)

    def told(self, *calls, t=0):
        return last(*self.calls, *calls, self.vote, now(VOTE, t))

    def test_good(self):
        self.assertEqual(self.told(came(2, 0, 14)), [0, 12, 1000])

    def test_nothing_has_come(self):
        self.assertEqual(self.told(), [0, 11, 666])

    def test_none(self):
        self.assertEqual(self.told(came(2, 0, NONE)), [0, 11, 666])

    def test_not_good(self):
        self.assertEqual(self.told(came(2, 0, 101)), [0, 11, 666])

    def test_held(self):
        calls = [came(2, 0, 14), came(2, 0, 101)]
        self.assertEqual(last(*self.calls, *calls, now(2, 0)), [68, 14, 250])
        self.assertEqual(self.told(*calls), [0, 11, 666])

    def test_another_stands_in(self):
        calls = [stand(2, 3), came(3, 0, 14)]
        self.assertEqual(last(*self.calls, *calls, now(2, 0)), [65, 14, 500])
        self.assertEqual(self.told(*calls), [0, 11, 666])

    def test_stale(self):
        self.assertEqual(self.told(came(2, 0, 14), t=10), [0, 12, 1000])
        self.assertEqual(self.told(came(2, 0, 14), t=11), [0, 11, 666])

    def test_a_member_that_is_left_out_does_not_move_the_middle(self):
        calls = [*set_all(0, 1, 2), came(0, 0, 10), came(1, 0, 50), came(2, 0, NONE), vote(VOTE, (0, 3), 1, 2)]
        self.assertEqual(last(*calls, now(VOTE, 0)), [0, 10, 600])


class VotesOfVotes(unittest.TestCase):
    def setUp(self):
        self.calls = [*set_all(0, 1, 2, 3, 4), came(0, 0, 10), came(1, 0, 11), came(2, 0, 12), came(3, 0, 30)]
        self.calls += [vote(10, 0, 1, tolerance=1), vote(11, 1, 2, tolerance=1), vote(12, 3, 4)]

    def test_the_votes_by_themselves(self):
        told = ask(*self.calls, now(10, 0), now(11, 0), now(12, 0))[-3:]
        self.assertEqual(told, [[0, 11, 1000], [0, 12, 1000], [128, NONE, 500]])

    def test_a_vote_of_votes(self):
        self.assertEqual(last(*self.calls, vote(20, 10, 11, tolerance=1), now(20, 0)), [0, 12, 1000])

    def test_a_vote_that_decides_nothing_is_left_out(self):
        self.assertEqual(last(*self.calls, vote(20, 10, 12), now(20, 0)), [128, NONE, 500])
        self.assertEqual(last(*self.calls, vote(20, (10, 2), 12), now(20, 0)), [0, 11, 666])

    def test_how_sure_a_vote_is_does_not_weigh(self):
        calls = [*self.calls, vote(13, (1, 51), (4, 49))]
        self.assertEqual(last(*calls, now(13, 0)), [0, 11, 510])
        self.assertEqual(last(*calls, vote(20, 13, 10), now(20, 0)), [0, 11, 1000])

    def test_votes_and_measured_ones_together(self):
        self.assertEqual(last(*self.calls, vote(20, 10, 11, 3, tolerance=1), now(20, 0)), [0, 12, 666])

    def test_the_time_goes_down_to_the_members(self):
        calls = [set_up(0, old=5), set_up(1, old=9), came(0, 0, 7), came(1, 0, 7), vote(2, 0, 1), vote(3, 2, (1, 3))]
        self.assertEqual(last(*calls, now(3, 5)), [0, 7, 1000])
        self.assertEqual(last(*calls, now(3, 6)), [0, 7, 750])
        self.assertEqual(last(*calls, now(3, 10)), [128, NONE, 0])

    def test_voted_anew(self):
        calls = [*self.calls, vote(10, (0, 3), 1)]
        self.assertEqual(last(*calls, now(10, 0)), [0, 10, 750])
        self.assertEqual(last(*calls, vote(10, 0, (1, 3)), now(10, 0)), [0, 11, 750])
        self.assertEqual(last(*calls, vote(10, 2, 1, tolerance=1), now(10, 0)), [0, 12, 1000])


if __name__ == "__main__":
    unittest.main()
