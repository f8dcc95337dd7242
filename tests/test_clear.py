"""Promise 5: clear."""

import unittest

from helper import TOP, ask, clear, last, set_all, set_up, stand, vote

NOBODY = 64


class Clear(unittest.TestCase):
    def test_it_is_not_there_any_more(self):
        self.assertEqual(ask(set_up(0), clear(0), clear(0)), [0, 0, -2])
        self.assertEqual(ask(set_up(0), clear(0), set_up(0)), [0, 0, 0])
        self.assertEqual(last(*set_all(0, 1), vote(2, 0, 1), clear(2), clear(2)), -2)

    def test_the_others_stay(self):
        self.assertEqual(ask(*set_all(0, 1, 2), clear(1), set_up(0), set_up(2))[-3:], [0, 1, 1])

    def test_channel_at_the_edges(self):
        self.assertEqual(ask(set_up(0), clear(0)), [0, 0])
        self.assertEqual(ask(set_up(63), clear(63)), [0, 0])
        for c in (64, 65, 2 ** 63, TOP):
            self.assertEqual(ask(clear(c)), [-1])

    def test_it_is_not_there(self):
        self.assertEqual(ask(clear(0)), [-2])
        self.assertEqual(ask(clear(63)), [-2])
        self.assertEqual(ask(set_up(1), clear(0)), [0, -2])

    def test_it_stands_in(self):
        calls = [*set_all(0, 1), stand(0, 1)]
        self.assertEqual(last(*calls, clear(1)), -4)
        self.assertEqual(last(*calls, clear(1), set_up(1)), 1)
        self.assertEqual(last(*calls, stand(0, NOBODY), clear(1)), 0)

    def test_it_stood_in_for_one_that_is_cleared(self):
        self.assertEqual(ask(*set_all(0, 1), stand(0, 1), clear(1), clear(0), clear(1))[-3:], [-4, 0, 0])

    def test_it_stands_in_for_one_other_still(self):
        calls = [*set_all(0, 1, 2), stand(0, 2), stand(1, 2), clear(0)]
        self.assertEqual(last(*calls, clear(2)), -4)
        self.assertEqual(last(*calls, clear(1), clear(2)), 0)

    def test_it_is_a_member(self):
        calls = [*set_all(0, 1, 3), vote(2, 0, 1)]
        self.assertEqual(ask(*calls, clear(0), clear(1), clear(3))[-3:], [-4, -4, 0])
        self.assertEqual(last(*calls, vote(2, 1, 3), clear(0)), 0)
        self.assertEqual(last(*calls, clear(2), clear(0)), 0)

    def test_it_is_a_member_and_stands_in(self):
        calls = [*set_all(0, 1, 3), vote(2, 0, 1), stand(3, 0)]
        self.assertEqual(last(*calls, clear(2), clear(0)), -4)
        self.assertEqual(last(*calls, stand(3, NOBODY), clear(0)), -4)
        self.assertEqual(last(*calls, stand(3, NOBODY), clear(2), clear(0)), 0)

    def test_a_voted_one_that_stands_in_or_is_a_member(self):
        calls = [*set_all(0, 1, 3), vote(2, 0, 1)]
        self.assertEqual(last(*calls, stand(3, 2), clear(2)), -4)
        self.assertEqual(last(*calls, vote(4, 2, 3), clear(2)), -4)

    def test_one_that_leans_on_others_goes(self):
        self.assertEqual(last(*set_all(0, 1), stand(0, 1), clear(0)), 0)
        self.assertEqual(last(*set_all(0, 1), vote(2, 0, 1), clear(2)), 0)

    def test_a_weight_is_not_leaned_on(self):
        self.assertEqual(last(*set_all(0, 1, 7), vote(2, (0, 7), (1, 7)), clear(7)), 0)

    def test_who_stood_in_for_it_is_forgotten(self):
        calls = [*set_all(0, 1), stand(0, 1), clear(0), set_up(0)]
        self.assertEqual(last(*calls), 0)
        self.assertEqual(last(*calls, clear(1)), 0)
        self.assertEqual(last(*calls, stand(1, 0)), 0)

    def test_its_members_are_forgotten(self):
        calls = [*set_all(0, 1), vote(2, 0, 1), clear(2), set_up(2)]
        self.assertEqual(last(*calls, clear(0)), 0)
        self.assertEqual(last(*calls, stand(0, 2)), 0)

    def test_a_refused_clear_changes_nothing(self):
        calls = [*set_all(0, 1, 2), stand(0, 1), stand(1, 2), clear(1)]
        self.assertEqual(last(*calls), -4)
        self.assertEqual(last(*calls, clear(2)), -4)
        self.assertEqual(last(*calls, stand(2, 0)), -3)
        self.assertEqual(last(*calls, set_up(1)), 1)


if __name__ == "__main__":
    unittest.main()
