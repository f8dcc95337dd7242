"""Many ways that lead to one channel, and long ones, are answered too."""

import unittest

from helper import EDGE, NONE, ask, came, last, now, out, set_all, set_up, stand, vote


def chain():
    """64 channels, each but the last with the next one standing in."""
    return set_all(*range(64)) + [stand(c, c + 1) for c in range(63)]


def votes_of_the_two_before(tolerance=0):
    """Two measured channels, and 62 votes, each of the two channels before it."""
    return set_all(0, 1) + [vote(c, c - 2, c - 1, tolerance=tolerance) for c in range(2, 64)]


class Chains(unittest.TestCase):
    def test_each_stands_in_for_the_one_before(self):
        calls = [*chain(), came(63, 0, 42)]
        told = ask(*calls, *[now(c, 0) for c in range(64)])[-64:]
        sure = [1000]
        while len(sure) < 64:
            sure.append(sure[-1] // 2)
        self.assertEqual(told[:63], [[65, 42, parts] for parts in sure[:0:-1]])
        self.assertEqual(told[63], [0, 42, 1000])

    def test_nobody_has_a_value(self):
        self.assertEqual(last(*chain(), now(0, 0)), [1, NONE, 0])

    def test_the_hold_at_the_end_of_a_chain(self):
        calls = [*chain(), set_up(63, hold=5), came(63, 0, 42), came(63, 0, NONE)]
        self.assertEqual(last(*calls, now(60, 5)), [65, 42, 31])
        self.assertEqual(last(*calls, now(60, 6)), [1, NONE, 0])

    def test_the_hold_amid_a_chain(self):
        calls = [*chain(), set_up(3, hold=5), came(3, 0, 42), came(3, 0, 101)]
        self.assertEqual(last(*calls, now(3, 5)), [68, 42, 250])
        self.assertEqual(last(*calls, now(0, 5)), [65, 42, 31])

    def test_a_chain_the_other_way_round(self):
        calls = set_all(*range(64)) + [stand(c, c - 1) for c in range(1, 64)] + [came(0, 0, 42)]
        self.assertEqual(last(*calls, now(63, 0)), [65, 42, 0])
        self.assertEqual(last(*calls, now(2, 0)), [65, 42, 250])


class Votes(unittest.TestCase):
    def test_each_of_the_two_before(self):
        calls = [*votes_of_the_two_before(), came(0, 0, 9), came(1, 0, 9)]
        self.assertEqual(ask(*calls, now(63, 0), out(63, 0))[-2:], [[0, 9, 1000], 0])

    def test_with_a_tolerance(self):
        calls = [*votes_of_the_two_before(tolerance=100), came(0, 0, 0), came(1, 0, 100)]
        # 0, 100, 50, 75, 63, 69, 66, 68, 67, 68 and then 68 for good.
        told = ask(*calls, *[now(c, 0) for c in range(12)])[-12:]
        self.assertEqual([value for quality, value, sure in told], [0, 100, 50, 75, 63, 69, 66, 68, 67, 68, 68, 68])
        self.assertEqual(ask(*calls, now(63, 0), out(63, 0))[-2:], [[0, 68, 1000], 0])

    def test_that_decide_nothing(self):
        calls = [*votes_of_the_two_before(), came(0, 0, 9), came(1, 0, 8)]
        self.assertEqual(ask(*calls, now(2, 0), out(2, 0), now(63, 0), out(63, 0))[-4:],
                         [[128, NONE, 500], [1, 0], [128, NONE, 0], 0])

    def test_each_of_the_sixteen_before(self):
        calls = [set_up(c, -EDGE, EDGE) for c in range(16)] + [came(c, 0, EDGE) for c in range(16)]
        calls += [vote(c, *[(m, 100) for m in range(c - 16, c)]) for c in range(16, 64)]
        told = ask(*calls, *[now(63, 0)] * 110, *[out(63, 0)] * 110)[-220:]
        self.assertEqual(told, [[0, EDGE, 1000]] * 110 + [0] * 110)

    def test_each_of_the_sixteen_before_told_the_other_way_round(self):
        calls = [set_up(c, -EDGE, EDGE) for c in range(16)] + [came(c, 0, -EDGE) for c in range(15)]
        calls += [vote(c, *[(m, 100) for m in range(c - 1, c - 17, -1)]) for c in range(16, 64)]
        self.assertEqual(ask(*calls, now(16, 0), now(63, 0))[-2:], [[0, -EDGE, 937], [0, -EDGE, 1000]])

    def test_votes_and_stand_ins_by_turns(self):
        # Each measured channel has the vote before it standing in, each vote takes that channel and the one before.
        calls = [*set_all(0, 1), vote(2, 0, 1)]
        for c in range(3, 63, 2):
            calls += [set_up(c), stand(c, c - 1), vote(c + 1, (c, 1), (c - 1, 2))]
        calls += [came(0, 0, 9), came(1, 0, 9)]
        self.assertEqual(ask(*calls, now(62, 0), now(61, 0))[-2:], [[0, 9, 666], [65, 9, 333]])


if __name__ == "__main__":
    unittest.main()
