"""Promise 1: begin."""

import unittest

from helper import ask, begin, clear, last, set_all, set_up, stand, vote


class Begin(unittest.TestCase):
    def test_answers_0(self):
        self.assertEqual(ask(begin()), [0])
        self.assertEqual(ask(begin(), begin()), [0, 0])

    def test_no_channels_at_the_beginning_of_a_list(self):
        for c in range(64):
            self.assertEqual(ask(clear(c)), [-2])
            self.assertEqual(ask(set_up(c)), [0])

    def test_no_channels_after_it_in_the_middle(self):
        for c in range(64):
            self.assertEqual(last(*set_all(*range(64)), begin(), clear(c)), -2)
            self.assertEqual(last(*set_all(*range(64)), begin(), set_up(c)), 0)

    def test_voted_channels_are_gone_too(self):
        calls = [*set_all(0, 1), vote(2, 0, 1), begin()]
        self.assertEqual(last(*calls, clear(2)), -2)
        self.assertEqual(last(*calls, set_up(2)), 0)

    def test_a_channel_taken_away_by_it_does_not_stand_in_or_vote(self):
        calls = [*set_all(0, 1), begin(), set_up(0)]
        self.assertEqual(last(*calls, stand(0, 1)), -2)
        self.assertEqual(last(*calls, vote(2, 0, 1)), -2)

    def test_who_stood_in_is_forgotten(self):
        calls = [*set_all(0, 1), stand(0, 1), begin(), *set_all(0, 1)]
        self.assertEqual(last(*calls, clear(1)), 0)
        self.assertEqual(last(*calls, stand(1, 0)), 0)

    def test_members_are_forgotten(self):
        calls = [*set_all(0, 1), vote(2, 0, 1), begin(), *set_all(0, 1, 2)]
        self.assertEqual(ask(*calls, clear(0), clear(1))[-2:], [0, 0])


if __name__ == "__main__":
    unittest.main()
