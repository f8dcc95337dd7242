"""Promise 7: now, of measured channels; and its refusals."""

import unittest

from helper import EDGE, NONE, TOP, ask, begin, came, clear, last, look, now, set_all, set_up, stand, vote


class Refusals(unittest.TestCase):
    def test_channel_at_the_edges(self):
        for c in (0, 63):
            self.assertEqual(ask(set_up(c), now(c, 0)), [0, [1, NONE, 0]])
        for c in (64, 65, 2 ** 32, 2 ** 63, TOP):
            self.assertEqual(ask(now(c, 0)), [-1])

    def test_time_at_the_edges(self):
        self.assertEqual(ask(set_up(5), came(5, EDGE, 7), now(5, EDGE)), [0, 0, [0, 7, 1000]])
        for t in (EDGE + 1, 2 ** 63, TOP):
            self.assertEqual(last(set_up(5), now(5, t)), -1)

    def test_a_channel_that_is_not_there(self):
        self.assertEqual(last(now(5, 0)), -2)
        self.assertEqual(last(set_up(6), now(5, 0)), -2)
        self.assertEqual(last(set_up(5), came(5, 0, 1), clear(5), now(5, 0)), -2)
        self.assertEqual(last(set_up(5), came(5, 0, 1), begin(), now(5, 0)), -2)

    def test_not_allowed_is_told_ahead_of_not_there(self):
        self.assertEqual(last(now(5, EDGE + 1)), -1)


class TheLast(unittest.TestCase):
    def test_nothing_has_come(self):
        for t in (0, 1, EDGE):
            self.assertEqual(last(set_up(5), now(5, t)), [1, NONE, 0])
            self.assertEqual(last(set_up(5, old=1, hold=EDGE), now(5, t)), [1, NONE, 0])

    def test_good(self):
        for value in (0, 1, 100):
            self.assertEqual(last(set_up(5), came(5, 0, value), now(5, 0)), [0, value, 1000])
        for value in (-EDGE, -1, EDGE):
            self.assertEqual(last(set_up(5, -EDGE, EDGE), came(5, 0, value), now(5, 0)), [0, value, 1000])

    def test_not_good(self):
        calls = [set_up(5, 0, 100, 1, 2)]
        self.assertEqual(last(*calls, came(5, 0, 101), now(5, 0)), [4, NONE, 0])
        self.assertEqual(last(*calls, came(5, 0, -1), now(5, 0)), [2, NONE, 0])
        self.assertEqual(last(*calls, came(5, 0, 1), came(5, 0, 9), now(5, 0)), [8, NONE, 0])
        self.assertEqual(last(*calls, came(5, 0, 1), came(5, 0, 1), now(5, 0)), [16, NONE, 0])
        self.assertEqual(last(*calls, came(5, 0, NONE), now(5, 0)), [128, NONE, 0])

    def test_just_as_old_as_it_may_be_and_one_older(self):
        calls = [set_up(5, old=10), came(5, 7, 50)]
        self.assertEqual(last(*calls, now(5, 17)), [0, 50, 1000])
        self.assertEqual(last(*calls, now(5, 18)), [1, NONE, 0])
        self.assertEqual(last(*calls, now(5, EDGE)), [1, NONE, 0])
        self.assertEqual(last(*calls, came(5, 18, 51), now(5, 28)), [0, 51, 1000])
        oldest = [set_up(5, old=EDGE), came(5, 0, 50)]
        self.assertEqual(last(*oldest, now(5, EDGE)), [0, 50, 1000])
        oldest = [set_up(5, old=EDGE - 1), came(5, 0, 50)]
        self.assertEqual(last(*oldest, now(5, EDGE)), [1, NONE, 0])

    def test_0_is_as_old_as_it_likes(self):
        self.assertEqual(last(set_up(5), came(5, 0, 50), now(5, EDGE)), [0, 50, 1000])

    def test_1_is_put_to_what_was_not_good(self):
        calls = [set_up(5, old=10)]
        self.assertEqual(last(*calls, came(5, 0, 101), now(5, 10)), [4, NONE, 0])
        self.assertEqual(last(*calls, came(5, 0, 101), now(5, 11)), [5, NONE, 0])
        self.assertEqual(last(*calls, came(5, 0, NONE), now(5, 10)), [128, NONE, 0])
        self.assertEqual(last(*calls, came(5, 0, NONE), now(5, 11)), [129, NONE, 0])
        several = [set_up(5, 0, 100, 1, 2, 10), came(5, 0, 50), came(5, 0, -1), came(5, 0, -1)]
        self.assertEqual(last(*several, now(5, 11)), [27, NONE, 0])

    def test_as_old_as_the_last_not_as_the_last_good_one(self):
        calls = [set_up(5, old=10), came(5, 0, 50), came(5, 5, NONE)]
        self.assertEqual(last(*calls, now(5, 15)), [128, NONE, 0])
        self.assertEqual(last(*calls, now(5, 16)), [129, NONE, 0])

    def test_a_time_before_the_last_that_came(self):
        calls = [set_up(5, old=10), came(5, 700, 50)]
        self.assertEqual(last(*calls, now(5, 699)), [0, 50, 1000])
        self.assertEqual(last(*calls, now(5, 0)), [0, 50, 1000])
        self.assertEqual(last(*calls, came(5, 700, 101), now(5, 0)), [4, NONE, 0])

    def test_how_old_it_may_be_is_asked_anew(self):
        calls = [set_up(5, old=10), came(5, 0, 50)]
        self.assertEqual(last(*calls, set_up(5, old=20), now(5, 20)), [0, 50, 1000])
        self.assertEqual(last(*calls, set_up(5, old=9), now(5, 10)), [1, NONE, 0])
        self.assertEqual(last(*calls, set_up(5, 60, 70), now(5, 10)), [0, 50, 1000])

    def test_asking_changes_nothing(self):
        calls = [set_up(5, old=10, same=2), came(5, 0, 50)]
        told = ask(*calls, look(5), now(5, 11), now(5, 10), now(5, 11), look(5))[2:]
        self.assertEqual(told[1:4], [[1, NONE, 0], [0, 50, 1000], [1, NONE, 0]])
        self.assertEqual(told[0], told[4])


class StandingIn(unittest.TestCase):
    def test_a_good_one_stands_in(self):
        calls = [*set_all(0, 1), stand(0, 1), came(1, 0, 60)]
        self.assertEqual(last(*calls, now(0, 0)), [65, 60, 500])
        self.assertEqual(last(*calls, came(0, 0, 101), now(0, 0)), [68, 60, 500])
        self.assertEqual(last(*calls, came(0, 0, -1), now(0, 0)), [66, 60, 500])
        self.assertEqual(last(*calls, came(0, 0, NONE), now(0, 0)), [192, 60, 500])

    def test_not_where_it_is_good_itself(self):
        calls = [*set_all(0, 1), stand(0, 1), came(1, 0, 60), came(0, 0, 50)]
        self.assertEqual(last(*calls, now(0, 0)), [0, 50, 1000])

    def test_not_for_the_one_that_stands_in(self):
        calls = [*set_all(0, 1), stand(0, 1), came(0, 0, 50)]
        self.assertEqual(last(*calls, now(1, 0)), [1, NONE, 0])

    def test_nobody_any_more(self):
        calls = [*set_all(0, 1), stand(0, 1), came(1, 0, 60), stand(0, 64)]
        self.assertEqual(last(*calls, now(0, 0)), [1, NONE, 0])

    def test_another_than_before(self):
        calls = [*set_all(0, 1, 2), stand(0, 1), came(1, 0, 60), came(2, 0, 70), stand(0, 2)]
        self.assertEqual(last(*calls, now(0, 0)), [65, 70, 500])

    def test_its_range_is_not_asked_for(self):
        calls = [set_up(0, 0, 10), set_up(1, -EDGE, EDGE), stand(0, 1), came(1, 0, EDGE)]
        self.assertEqual(last(*calls, now(0, 0)), [65, EDGE, 500])
        self.assertEqual(last(*calls, came(1, 0, -EDGE), now(0, 0)), [65, -EDGE, 500])

    def test_its_time_is_the_same(self):
        calls = [set_up(0), set_up(1, old=10), stand(0, 1), came(1, 5, 60)]
        self.assertEqual(last(*calls, now(0, 15)), [65, 60, 500])
        self.assertEqual(last(*calls, now(0, 16)), [1, NONE, 0])

    def test_one_that_is_held_stands_in(self):
        calls = [set_up(0), set_up(1, hold=10), stand(0, 1), came(1, 0, 60), came(1, 0, NONE)]
        self.assertEqual(last(*calls, now(1, 10)), [192, 60, 250])
        self.assertEqual(last(*calls, now(0, 10)), [65, 60, 125])
        self.assertEqual(last(*calls, now(0, 11)), [1, NONE, 0])

    def test_a_value_of_0_stands_in(self):
        self.assertEqual(last(*set_all(0, 1), stand(0, 1), came(1, 0, 0), now(0, 0)), [65, 0, 500])

    def test_made_up_twice_is_put_in_once(self):
        calls = [*set_all(0, 1, 2), stand(0, 1), stand(1, 2), came(2, 0, 70)]
        self.assertEqual(last(*calls, now(1, 0)), [65, 70, 500])
        self.assertEqual(last(*calls, now(0, 0)), [65, 70, 250])
        # Its own quality is told, not that of the one that stands in.
        self.assertEqual(last(*calls, came(0, 0, 101), came(1, 0, NONE), now(0, 0)), [68, 70, 250])

    def test_stale_and_old_is_put_in_once(self):
        calls = [set_up(0, old=1), set_up(1, old=1, hold=9), stand(0, 1), came(0, 0, 5), came(1, 0, 6)]
        self.assertEqual(last(*calls, now(0, 2)), [65, 6, 125])

    def test_half_as_sure_cut_off_each_time(self):
        sure = (1000, 500, 250, 125, 62, 31, 15, 7, 3, 1, 0, 0)
        calls = set_all(*range(12)) + [stand(c, c + 1) for c in range(11)] + [came(11, 0, 42)]
        told = ask(*calls, *[now(c, 0) for c in reversed(range(12))])[-12:]
        self.assertEqual(told, [[0, 42, 1000]] + [[65, 42, parts] for parts in sure[1:]])

    def test_a_voted_one_stands_in(self):
        calls = [*set_all(0, 1, 2, 3), vote(4, (1, 5), (2, 5), (3, 5)), stand(0, 4)]
        self.assertEqual(last(*calls, now(0, 0)), [1, NONE, 0])
        agreeing = [came(1, 0, 9), came(2, 0, 9)]
        self.assertEqual(last(*calls, *agreeing, now(4, 0)), [0, 9, 666])
        self.assertEqual(last(*calls, *agreeing, now(0, 0)), [65, 9, 333])

    def test_sure_where_nothing_is_believed_does_not_count(self):
        calls = [*set_all(0, 1, 2), vote(4, 1, 2), stand(0, 4), came(1, 0, 9)]
        self.assertEqual(last(*calls, now(4, 0)), [128, NONE, 500])
        self.assertEqual(last(*calls, now(0, 0)), [1, NONE, 0])


class Held(unittest.TestCase):
    def test_just_as_long_as_it_may_be_and_one_longer(self):
        calls = [set_up(5, hold=10), came(5, 7, 50), came(5, 9, NONE)]
        self.assertEqual(last(*calls, now(5, 9)), [192, 50, 250])
        self.assertEqual(last(*calls, now(5, 17)), [192, 50, 250])
        self.assertEqual(last(*calls, now(5, 18)), [128, NONE, 0])
        self.assertEqual(last(*calls, now(5, EDGE)), [128, NONE, 0])

    def test_a_hold_of_0(self):
        calls = [set_up(5), came(5, 7, 50), came(5, 7, NONE)]
        self.assertEqual(last(*calls, now(5, 7)), [128, NONE, 0])
        self.assertEqual(last(*calls, now(5, 0)), [128, NONE, 0])

    def test_the_greatest_hold(self):
        self.assertEqual(last(set_up(5, hold=EDGE), came(5, 0, 3), came(5, 0, 101), now(5, EDGE)), [68, 3, 250])
        self.assertEqual(last(set_up(5, hold=EDGE - 1), came(5, 0, 3), came(5, 0, 101), now(5, EDGE)), [4, NONE, 0])

    def test_nothing_good_came(self):
        self.assertEqual(last(set_up(5, hold=EDGE), came(5, 0, 101), now(5, 0)), [4, NONE, 0])
        self.assertEqual(last(set_up(5, hold=EDGE), came(5, 0, NONE), now(5, 0)), [128, NONE, 0])
        self.assertEqual(last(set_up(5, hold=EDGE), now(5, 0)), [1, NONE, 0])

    def test_stale_and_held(self):
        calls = [set_up(5, old=10, hold=20), came(5, 0, 50)]
        self.assertEqual(last(*calls, now(5, 10)), [0, 50, 1000])
        self.assertEqual(last(*calls, now(5, 11)), [65, 50, 250])
        self.assertEqual(last(*calls, now(5, 20)), [65, 50, 250])
        self.assertEqual(last(*calls, now(5, 21)), [1, NONE, 0])

    def test_stale_and_not_good_and_held(self):
        calls = [set_up(5, old=10, hold=20), came(5, 0, 50), came(5, 1, 101)]
        self.assertEqual(last(*calls, now(5, 11)), [68, 50, 250])
        self.assertEqual(last(*calls, now(5, 12)), [69, 50, 250])

    def test_a_time_before_the_last_good_one(self):
        calls = [set_up(5, hold=10), came(5, 700, 50), came(5, 700, NONE)]
        self.assertEqual(last(*calls, now(5, 0)), [192, 50, 250])

    def test_a_value_of_0_is_held(self):
        self.assertEqual(last(set_up(5, hold=10), came(5, 0, 0), came(5, 0, NONE), now(5, 0)), [192, 0, 250])

    def test_one_that_stands_in_goes_ahead(self):
        calls = [set_up(0, hold=10), set_up(1), stand(0, 1), came(0, 0, 50), came(0, 0, NONE)]
        self.assertEqual(last(*calls, came(1, 0, 60), now(0, 0)), [192, 60, 500])

    def test_one_that_stands_in_without_a_value_does_not(self):
        calls = [set_up(0, hold=10), set_up(1), stand(0, 1), came(0, 0, 50), came(0, 0, NONE)]
        self.assertEqual(last(*calls, now(0, 10)), [192, 50, 250])
        self.assertEqual(last(*calls, came(1, 0, 101), now(0, 10)), [192, 50, 250])
        self.assertEqual(last(*calls, came(1, 0, 101), now(0, 11)), [128, NONE, 0])

    def test_the_hold_is_asked_anew(self):
        calls = [set_up(5, hold=10), came(5, 0, 50), came(5, 0, NONE)]
        self.assertEqual(last(*calls, set_up(5, hold=20), now(5, 20)), [192, 50, 250])
        self.assertEqual(last(*calls, set_up(5, hold=9), now(5, 10)), [128, NONE, 0])


if __name__ == "__main__":
    unittest.main()
