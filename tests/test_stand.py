"""Promise 3: stand."""

import unittest

from helper import TOP, ask, clear, last, set_all, set_up, stand, vote

NOBODY = 64


class Stand(unittest.TestCase):
    def test_another_stands_in(self):
        calls = [*set_all(0, 1), stand(0, 1)]
        self.assertEqual(last(*calls), 0)
        self.assertEqual(last(*calls, clear(1)), -4)
        self.assertEqual(last(*calls, clear(0)), 0)

    def test_a_voted_one_may_stand_in(self):
        calls = [*set_all(0, 1, 3), vote(2, 0, 1), stand(3, 2)]
        self.assertEqual(last(*calls), 0)
        self.assertEqual(last(*calls, clear(2)), -4)

    def test_channel_at_the_edges(self):
        self.assertEqual(last(*set_all(63, 0), stand(63, 0)), 0)
        self.assertEqual(last(*set_all(63, 0), stand(0, 63)), 0)
        for c in (64, 65, 2 ** 63, TOP):
            self.assertEqual(last(*set_all(0, 63), stand(c, 0)), -1)

    def test_who_stands_in_at_the_edges(self):
        calls = [*set_all(0, 63)]
        self.assertEqual(last(*calls, stand(0, 63)), 0)
        self.assertEqual(last(*calls, stand(0, NOBODY)), 0)
        for s in (65, 66, 2 ** 63, TOP):
            self.assertEqual(last(*calls, stand(0, s)), -1)

    def test_channel_is_not_there(self):
        self.assertEqual(ask(stand(0, 0)), [-2])
        self.assertEqual(ask(stand(0, NOBODY)), [-2])
        self.assertEqual(last(set_up(1), stand(0, 1)), -2)
        # Nothing came to be by it.
        self.assertEqual(ask(set_up(1), stand(0, 1), clear(1), clear(0)), [0, -2, 0, -2])

    def test_channel_is_voted(self):
        voted = [*set_all(0, 1, 3), vote(2, 0, 1)]
        for s in (0, 2, 3, 4, 63, NOBODY):
            self.assertEqual(last(*voted, stand(2, s)), -2, s)
        self.assertEqual(last(*voted, stand(2, 3), clear(3)), 0)
        self.assertEqual(last(*voted, stand(2, NOBODY), clear(0)), -4)

    def test_who_stands_in_is_not_there(self):
        self.assertEqual(last(set_up(0), stand(0, 1)), -2)
        self.assertEqual(last(set_up(0), stand(0, 63)), -2)
        self.assertEqual(last(*set_all(0, 1), clear(1), stand(0, 1)), -2)

    def test_nobody_stands_in(self):
        self.assertEqual(last(set_up(0), stand(0, NOBODY)), 0)
        calls = [*set_all(0, 1), stand(0, 1), stand(0, NOBODY)]
        self.assertEqual(last(*calls), 0)
        self.assertEqual(last(*calls, clear(1)), 0)
        self.assertEqual(last(*calls, stand(1, 0)), 0)

    def test_another_in_the_place_of_the_one_before(self):
        calls = [*set_all(0, 1, 2), stand(0, 1), stand(0, 2)]
        self.assertEqual(last(*calls), 0)
        self.assertEqual(last(*calls, clear(1)), 0)
        self.assertEqual(last(*calls, clear(2)), -4)

    def test_the_same_once_more(self):
        calls = [*set_all(0, 1), stand(0, 1), stand(0, 1)]
        self.assertEqual(last(*calls), 0)
        self.assertEqual(last(*calls, clear(1)), -4)

    def test_one_stands_in_for_several(self):
        calls = [*set_all(0, 1, 2), stand(0, 2), stand(1, 2)]
        self.assertEqual(ask(*calls)[-2:], [0, 0])
        self.assertEqual(last(*calls, stand(0, NOBODY), clear(2)), -4)
        self.assertEqual(last(*calls, stand(0, NOBODY), stand(1, NOBODY), clear(2)), 0)

    def test_it_comes_to_itself(self):
        self.assertEqual(last(set_up(0), stand(0, 0)), -3)
        self.assertEqual(last(*set_all(0, 1), stand(0, 1), stand(0, 0)), -3)

    def test_order_of_the_refusals(self):
        # -1 ahead of both -2, whichever channel is out of range.
        self.assertEqual(ask(stand(64, 65)), [-1])
        self.assertEqual(ask(stand(64, 0)), [-1])
        self.assertEqual(ask(stand(0, 65)), [-1])
        self.assertEqual(ask(stand(64, NOBODY)), [-1])
        # c isn't measured, though s would come to c.
        self.assertEqual(last(*set_all(0, 1, 3), vote(2, 0, 1), stand(3, 2), stand(2, 3)), -2)
        self.assertEqual(last(*set_all(0, 1), vote(2, 0, 1), stand(2, 2)), -2)
        # c isn't there, and s is c.
        self.assertEqual(ask(stand(7, 7)), [-2])

    def test_a_refused_stand_changes_nothing(self):
        before = [*set_all(0, 1, 2), stand(0, 1), stand(2, 0)]
        for call, answer in ((stand(0, 65), -1), (stand(0, 9), -2), (stand(0, 0), -3), (stand(0, 2), -3)):
            self.assertEqual(last(*before, call), answer)
            self.assertEqual(last(*before, call, clear(1)), -4)
            self.assertEqual(last(*before, call, clear(2)), 0)
            self.assertEqual(last(*before, call, stand(1, 0)), -3)


if __name__ == "__main__":
    unittest.main()
