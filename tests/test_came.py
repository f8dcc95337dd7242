"""Promise 6: came."""

import unittest

from helper import EDGE, NONE, TOP, UNHEARD, VOTED, ask, begin, came, clear, last, look, set_all, set_up, vote

WIDE = set_up(5, -EDGE, EDGE)


class Came(unittest.TestCase):
    def refused(self, number, *calls):
        """The last call is refused, and channel 5 looks as it did before it."""
        before = last(*calls[:-1], look(5))
        self.assertEqual(last(*calls), number)
        self.assertEqual(last(*calls, look(5)), before)

    def test_answers_its_quality(self):
        self.assertEqual(ask(set_up(5), came(5, 0, 50), came(5, 1, 101), came(5, 2, -1)), [0, 0, 4, 2])
        self.assertEqual(ask(set_up(5), came(5, 0, NONE)), [0, 128])

    def test_it_is_the_last_and_the_last_good_one(self):
        self.assertEqual(last(set_up(5), came(5, 7, 50), look(5)), [0, 7, 50, 0, 7, 50, 1])

    def test_what_is_not_good_is_the_last_but_not_the_last_good_one(self):
        calls = [set_up(5), came(5, 7, 50), came(5, 9, 101)]
        self.assertEqual(last(*calls, look(5)), [0, 9, 101, 4, 7, 50, 1])
        self.assertEqual(last(*calls, came(5, 11, NONE), look(5)), [0, 11, NONE, 128, 7, 50, 0])
        self.assertEqual(last(*calls, came(5, 12, 3), look(5)), [0, 12, 3, 0, 12, 3, 1])

    def test_each_channel_by_itself(self):
        calls = [*set_all(5, 6), came(5, 7, 50), came(6, 3, 40)]
        self.assertEqual(ask(*calls, look(5), look(6))[-2:], [[0, 7, 50, 0, 7, 50, 1], [0, 3, 40, 0, 3, 40, 1]])

    def test_channel_at_the_edges(self):
        for c in (0, 63):
            self.assertEqual(ask(set_up(c), came(c, 0, 1)), [0, 0])
        for c in (64, 65, 2 ** 32, 2 ** 63, TOP):
            self.assertEqual(ask(came(c, 0, 1)), [-1])

    def test_time_at_the_edges(self):
        self.assertEqual(ask(set_up(5), came(5, 0, 1), came(5, EDGE, 2)), [0, 0, 0])
        self.assertEqual(last(set_up(5), came(5, EDGE, 2), look(5)), [0, EDGE, 2, 0, EDGE, 2, 1])
        for t in (EDGE + 1, 2 ** 63, TOP):
            self.refused(-1, set_up(5), came(5, t, 1))

    def test_value_at_the_edges(self):
        for value in (-EDGE, EDGE):
            self.assertEqual(ask(WIDE, came(5, 0, value), look(5)), [0, 0, [0, 0, value, 0, 0, value, 1]])
        for value in (-EDGE - 1, EDGE + 1, 2 ** 63 - 1, NONE + 1):
            self.refused(-1, WIDE, came(5, 0, value))

    def test_none_is_taken(self):
        self.assertEqual(ask(WIDE, came(5, 4, NONE), look(5)), [0, 128, [0, 4, NONE, 128, -1, NONE, 0]])

    def test_a_channel_that_is_not_there(self):
        self.assertEqual(ask(came(5, 0, 1), look(5)), [-2, -2])
        self.assertEqual(last(set_up(5), clear(5), came(5, 0, 1)), -2)
        self.assertEqual(last(set_up(5), begin(), came(5, 0, 1)), -2)
        self.assertEqual(last(set_up(6), came(5, 0, 1)), -2)

    def test_a_voted_channel(self):
        voted = [*set_all(0, 1), vote(5, 0, 1)]
        self.refused(-2, *voted, came(5, 0, 1))
        self.assertEqual(last(*voted, came(5, 0, 1), look(5)), VOTED)

    def test_time_of_the_last_that_came_and_one_before(self):
        for value in (50, 101, NONE):
            calls = [set_up(5), came(5, 7, value)]
            self.refused(-4, *calls, came(5, 6, 50))
            self.refused(-4, *calls, came(5, 6, NONE))
            self.refused(-4, *calls, came(5, 0, 50))
            self.assertEqual(last(*calls, came(5, 7, 49)), 0)
            self.assertEqual(last(*calls, came(5, 8, 49)), 0)

    def test_before_the_last_though_not_before_the_last_good_one(self):
        for value in (101, NONE):
            self.refused(-4, set_up(5), came(5, 3, 50), came(5, 7, value), came(5, 6, 50))

    def test_time_may_begin_anew_where_nothing_has_come(self):
        self.assertEqual(last(set_up(5), came(5, EDGE, 1), clear(5), set_up(5), came(5, 0, 1)), 0)
        self.assertEqual(last(set_up(5), came(5, EDGE, 1), set_up(5), came(5, EDGE - 1, 1)), -4)
        self.assertEqual(last(*set_all(5, 6), came(5, EDGE, 1), came(6, 0, 1)), 0)

    def test_not_allowed_is_told_ahead_of_not_there(self):
        voted = [*set_all(0, 1), vote(5, 0, 1)]
        for calls in ([], voted):
            self.assertEqual(last(*calls, came(5, EDGE + 1, 1)), -1)
            self.assertEqual(last(*calls, came(5, 0, EDGE + 1)), -1)
            self.assertEqual(last(*calls, came(5, 0, NONE + 1)), -1)

    def test_not_allowed_is_told_ahead_of_too_early(self):
        self.refused(-1, set_up(5), came(5, 7, 1), came(5, 6, EDGE + 1))
        self.refused(-1, set_up(5), came(5, 7, 1), came(5, 6, -EDGE - 1))

    def test_a_refused_one_does_not_count_in_a_row(self):
        calls = [set_up(5, same=2), came(5, 7, 1), came(5, 6, 2), came(5, EDGE + 1, 2)]
        self.assertEqual(last(*calls, came(5, 7, 1)), 16)
        self.assertEqual(last(*calls, came(5, 7, 2)), 0)
        self.assertEqual(last(set_up(5, same=2), came(5, EDGE + 1, 1), came(5, 0, 1)), 0)

    def test_a_refused_one_is_not_the_last_good_one(self):
        calls = [set_up(5, step=1), came(5, 10, 50), came(5, 9, 60), came(5, TOP, 60)]
        self.assertEqual(ask(*calls)[-2:], [-4, -1])
        self.assertEqual(last(*calls, came(5, 10, 60)), 8)
        self.assertEqual(last(*calls, came(5, 10, 50)), 0)

    def test_nothing_has_come_at_first(self):
        self.assertEqual(last(set_up(5), look(5)), UNHEARD)


if __name__ == "__main__":
    unittest.main()
