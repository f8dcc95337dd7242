"""Promise 9: look."""

import unittest

from helper import EDGE, NONE, TOP, UNHEARD, VOTED, ask, begin, came, clear, last, look, now, set_all, set_up
from helper import stand, vote


class Refusals(unittest.TestCase):
    def test_channel_at_the_edges(self):
        for c in (0, 63):
            self.assertEqual(ask(set_up(c), look(c)), [0, UNHEARD])
        for c in (64, 65, 2 ** 32, 2 ** 63, TOP):
            self.assertEqual(ask(look(c)), [-1])

    def test_a_channel_that_is_not_there(self):
        self.assertEqual(last(look(5)), -2)
        self.assertEqual(last(set_up(6), look(5)), -2)
        self.assertEqual(last(set_up(5), came(5, 0, 1), clear(5), look(5)), -2)
        self.assertEqual(last(set_up(5), came(5, 0, 1), begin(), look(5)), -2)


class Look(unittest.TestCase):
    def test_nothing_has_come(self):
        self.assertEqual(last(set_up(5), look(5)), [0, -1, NONE, 0, -1, NONE, 0])

    def test_something_good(self):
        self.assertEqual(last(set_up(5), came(5, 0, 0), look(5)), [0, 0, 0, 0, 0, 0, 1])
        self.assertEqual(last(set_up(5), came(5, 3, 40), look(5)), [0, 3, 40, 0, 3, 40, 1])
        self.assertEqual(last(set_up(5), came(5, 3, 40), came(5, 9, 40), look(5)), [0, 9, 40, 0, 9, 40, 2])

    def test_something_not_good(self):
        self.assertEqual(last(set_up(5), came(5, 3, 400), look(5)), [0, 3, 400, 4, -1, NONE, 1])
        self.assertEqual(last(set_up(5), came(5, 3, -4), came(5, 8, -4), look(5)), [0, 8, -4, 2, -1, NONE, 2])

    def test_good_then_not_good(self):
        self.assertEqual(last(set_up(5), came(5, 3, 40), came(5, 8, -4), look(5)), [0, 8, -4, 2, 3, 40, 1])

    def test_none(self):
        self.assertEqual(last(set_up(5), came(5, 3, NONE), look(5)), [0, 3, NONE, 128, -1, NONE, 0])
        self.assertEqual(last(set_up(5), came(5, 2, 7), came(5, 3, NONE), look(5)), [0, 3, NONE, 128, 2, 7, 0])

    def test_at_the_edges(self):
        calls = [set_up(5, -EDGE, 0), came(5, EDGE, -EDGE), came(5, EDGE, EDGE)]
        self.assertEqual(last(*calls, look(5)), [0, EDGE, EDGE, 4, EDGE, -EDGE, 1])

    def test_a_voted_channel(self):
        calls = [*set_all(0, 1), came(0, 0, 7), came(1, 0, 7), vote(5, 0, 1)]
        self.assertEqual(last(*calls, look(5)), [1, -1, NONE, 0, -1, NONE, 0])
        self.assertEqual(last(*calls, now(5, 3), look(5)), VOTED)

    def test_who_stands_in_is_not_told(self):
        calls = [*set_all(0, 1), stand(0, 1), came(1, 4, 7), now(0, 4)]
        self.assertEqual(last(*calls, look(0)), UNHEARD)

    def test_what_came_stays_when_it_is_set_anew(self):
        calls = [set_up(5), came(5, 3, 40), came(5, 8, 400)]
        before = last(*calls, look(5))
        self.assertEqual(before, [0, 8, 400, 4, 3, 40, 1])
        self.assertEqual(ask(*calls, set_up(5, 0, 1000), look(5))[-2:], [1, before])
        self.assertEqual(ask(*calls, set_up(5, 50, 60, 1, 1, 1, 1), look(5))[-2:], [1, before])

    def test_cleared_and_set_anew(self):
        calls = [set_up(5), came(5, 3, 40), came(5, 8, 400), clear(5), set_up(5)]
        self.assertEqual(last(*calls, look(5)), UNHEARD)
        self.assertEqual(last(*calls, now(5, 8)), [1, NONE, 0])

    def test_set_anew_after_begin(self):
        calls = [set_up(5), came(5, 3, 40), begin(), set_up(5)]
        self.assertEqual(last(*calls, look(5)), UNHEARD)
        self.assertEqual(last(*calls, now(5, 8)), [1, NONE, 0])

    def test_nobody_stands_in_after_begin_or_clear(self):
        calls = [set_up(5), set_up(6), stand(5, 6)]
        ahead = [came(6, 0, 7)]
        self.assertEqual(last(*calls, *ahead, now(5, 0)), [65, 7, 500])
        self.assertEqual(last(*calls, clear(5), set_up(5), *ahead, now(5, 0)), [1, NONE, 0])
        self.assertEqual(last(*calls, begin(), *set_all(5, 6), *ahead, now(5, 0)), [1, NONE, 0])

    def test_voted_then_cleared_then_set(self):
        calls = [*set_all(0, 1), vote(5, 0, 1), clear(5), set_up(5)]
        self.assertEqual(ask(*calls, look(5))[-3:], [0, 0, UNHEARD])
        self.assertEqual(last(*calls, came(5, 2, 7), look(5)), [0, 2, 7, 0, 2, 7, 1])

    def test_measured_then_cleared_then_voted(self):
        calls = [*set_all(0, 1, 5), came(5, 2, 7), clear(5), vote(5, 0, 1)]
        self.assertEqual(ask(*calls, look(5))[-2:], [0, VOTED])

    def test_voted_anew(self):
        self.assertEqual(last(*set_all(0, 1), vote(5, 0, 1), vote(5, 1, 0), look(5)), VOTED)


if __name__ == "__main__":
    unittest.main()
