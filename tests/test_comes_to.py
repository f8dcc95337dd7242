"""When a channel comes to another: the -3 of stand and vote."""

import unittest

from helper import ask, clear, last, set_all, set_up, stand, vote

NOBODY = 64


class ComesTo(unittest.TestCase):
    def test_by_standing_in(self):
        self.assertEqual(last(*set_all(0, 1), stand(0, 1), stand(1, 0)), -3)
        self.assertEqual(last(*set_all(0, 1, 2), stand(0, 1), stand(1, 2), stand(2, 0)), -3)
        self.assertEqual(last(*set_all(0, 1, 2), stand(0, 1), stand(1, 2), stand(2, 1)), -3)

    def test_not_against_its_direction(self):
        calls = [*set_all(0, 1, 2, 3), stand(0, 1), stand(1, 2)]
        self.assertEqual(last(*calls, stand(3, 0)), 0)
        self.assertEqual(last(*calls, stand(2, 3)), 0)
        self.assertEqual(last(*calls, stand(0, 2)), 0)

    def test_by_members(self):
        calls = [*set_all(0, 1), vote(2, 0, 1), vote(3, 0, 2), vote(4, 3, 1)]
        self.assertEqual(last(*calls, vote(2, 0, 3)), -3)
        self.assertEqual(last(*calls, vote(2, 4, 0)), -3)
        self.assertEqual(last(*calls, vote(3, 4, 0)), -3)
        self.assertEqual(last(*calls, vote(3, 1, 2)), 0)

    def test_by_the_last_of_many_members(self):
        calls = [*set_all(*range(17)), vote(20, *range(16))]
        for c in range(16):
            self.assertEqual(last(*calls, stand(c, 20)), -3)
        self.assertEqual(last(*calls, stand(16, 20)), 0)
        self.assertEqual(last(*calls, vote(21, *range(15), 20), vote(20, *range(15), 21)), -3)

    def test_mixed(self):
        # 5 leans on 4, 4 on 3 and 2, 3 on 2, 2 on 0 and 1.
        calls = [*set_all(0, 1, 3, 5), vote(2, 0, 1), stand(3, 2), vote(4, 3, 2), stand(5, 4)]
        self.assertEqual(ask(*calls)[-4:], [0, 0, 0, 0])
        for c in (0, 1, 3):
            self.assertEqual(last(*calls, stand(c, 5)), -3, c)
        self.assertEqual(last(*calls, stand(1, 3)), -3)
        self.assertEqual(last(*calls, stand(0, 1)), 0)
        self.assertEqual(last(*calls, vote(2, 1, 5)), -3)
        self.assertEqual(last(*calls, vote(2, 1, 3)), -3)
        self.assertEqual(last(*calls, vote(4, 2, 5)), -3)
        self.assertEqual(last(*calls, vote(4, 0, 1)), 0)

    def test_by_the_one_that_stands_in_for_a_member(self):
        calls = [*set_all(0, 1, 2), vote(3, 0, 1), stand(0, 2)]
        self.assertEqual(last(*calls, stand(2, 3)), -3)
        self.assertEqual(last(*calls, stand(2, 1)), 0)

    def test_no_longer_after_it_stopped_leaning(self):
        calls = [*set_all(0, 1, 2), stand(0, 1), stand(1, 2)]
        self.assertEqual(last(*calls, stand(1, NOBODY), stand(2, 0)), 0)
        self.assertEqual(last(*calls, clear(0), stand(2, 1)), -3)
        voted = [*set_all(0, 1, 2), vote(3, 0, 1)]
        self.assertEqual(last(*voted, vote(3, 1, 2), stand(0, 3)), 0)
        self.assertEqual(last(*voted, clear(3), vote(3, 1, 2), stand(0, 3)), 0)

    def test_what_it_leans_on_so_far_does_not_count(self):
        self.assertEqual(last(*set_all(0, 1, 2), stand(0, 1), stand(1, 2), stand(0, 2)), 0)
        self.assertEqual(last(*set_all(0, 1), vote(2, 0, 1), vote(3, 2, 0), vote(3, 0, 1), vote(2, 0, 1)), 0)

    def test_a_long_chain_by_standing_in(self):
        chain = [*set_all(*range(64)), *[stand(c, c + 1) for c in range(63)]]
        self.assertEqual(ask(*chain), [0] * 127)
        for s in range(64):
            self.assertEqual(last(*chain, stand(63, s)), -3)
        self.assertEqual(last(*chain, stand(31, NOBODY), stand(63, 0)), 0)
        self.assertEqual(last(*chain, stand(31, NOBODY), stand(63, 32)), -3)

    def test_a_long_chain_set_from_its_other_end(self):
        chain = [*set_all(*range(64)), *[stand(c, c - 1) for c in range(63, 0, -1)]]
        self.assertEqual(ask(*chain), [0] * 127)
        self.assertEqual(last(*chain, stand(0, 63)), -3)

    def test_a_long_chain_by_both(self):
        calls = set_all(0, 1)
        for c in range(2, 63, 2):
            calls += [set_up(c), stand(c, c - 1), vote(c + 1, c, c - 2)]
        self.assertEqual(set(ask(*calls)), {0})
        self.assertEqual(last(*calls, stand(1, 63)), -3)
        self.assertEqual(last(*calls, stand(0, 63)), -3)
        self.assertEqual(last(*calls, vote(3, 0, 63)), -3)

    def test_very_many_ways(self):
        # Each leans on the sixteen below it: there are far more ways than could be gone one by one.
        calls = set_all(*range(17))
        calls += [vote(c, *range(c - 16, c)) for c in range(17, 64)]
        self.assertEqual(set(ask(*calls)), {0})
        self.assertEqual(last(*calls, stand(1, 63)), -3)
        self.assertEqual(last(*calls, stand(0, 63)), 0)
        self.assertEqual(last(*calls, vote(17, 1, 63)), -3)


if __name__ == "__main__":
    unittest.main()
