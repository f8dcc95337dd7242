"""How what comes is judged: the range, the step, how often in a row."""

import unittest

from helper import EDGE, NONE, ask, came, last, look, set_up

SECOND = 1000000


class Range(unittest.TestCase):
    def judged(self, least, greatest, value):
        return last(set_up(5, least, greatest), came(5, 0, value))

    def test_at_its_bounds_and_one_beyond(self):
        for least, greatest in ((10, 20), (-20, -10), (-3, 3), (0, 0), (7, 7)):
            self.assertEqual(self.judged(least, greatest, least), 0)
            self.assertEqual(self.judged(least, greatest, greatest), 0)
            self.assertEqual(self.judged(least, greatest, least - 1), 2)
            self.assertEqual(self.judged(least, greatest, greatest + 1), 4)

    def test_at_the_edges_of_values(self):
        self.assertEqual(self.judged(-EDGE, EDGE, -EDGE), 0)
        self.assertEqual(self.judged(-EDGE, EDGE, EDGE), 0)
        self.assertEqual(self.judged(-EDGE + 1, EDGE, -EDGE), 2)
        self.assertEqual(self.judged(-EDGE, EDGE - 1, EDGE), 4)
        self.assertEqual(self.judged(EDGE, EDGE, -EDGE), 2)
        self.assertEqual(self.judged(-EDGE, -EDGE, EDGE), 4)

    def test_none_is_bad_whatever_is_asked(self):
        self.assertEqual(self.judged(0, 0, NONE), 128)
        strict = [set_up(5, 0, 9, 1, 1, 1, 1), came(5, 0, NONE)]
        self.assertEqual(ask(*strict, came(5, 0, NONE), came(5, 5, NONE))[1:], [128, 128, 128])
        self.assertEqual(last(set_up(5, 0, 9, 1, 2), came(5, 0, 3), came(5, 0, NONE)), 128)

    def test_what_was_asked_when_it_came_decides(self):
        calls = [set_up(5, 0, 10), came(5, 0, 50), set_up(5, 0, 100)]
        self.assertEqual(last(*calls, look(5)), [0, 0, 50, 4, -1, NONE, 1])
        self.assertEqual(last(*calls, came(5, 0, 60)), 0)


class Step(unittest.TestCase):
    def judged(self, step, first, since, second):
        """The quality of the second value, so long after a good first one."""
        return last(set_up(5, -EDGE, EDGE, step=step), came(5, 10, first), came(5, 10 + since, second))

    def test_at_its_edge_and_one_beyond(self):
        # Up and down: 30 a second, for 2 seconds.
        for sign in (1, -1):
            self.assertEqual(self.judged(30, 5, 2 * SECOND, 5 + sign * 60), 0)
            self.assertEqual(self.judged(30, 5, 2 * SECOND, 5 + sign * 61), 8)
            self.assertEqual(self.judged(30, 5, 2 * SECOND - 1, 5 + sign * 60), 8)

    def test_one_more_in_the_product_alone(self):
        # 7 times 1000000 against the step times the time since.
        self.assertEqual(self.judged(7, 0, SECOND, 7), 0)
        self.assertEqual(self.judged(1000, 0, 7000, 7), 0)
        self.assertEqual(self.judged(1000, 0, 6999, 7), 8)
        self.assertEqual(self.judged(6999999, 0, 1, 7), 8)
        self.assertEqual(self.judged(7000000, 0, 1, 7), 0)
        self.assertEqual(self.judged(1, 0, 7 * SECOND - 1, 7), 8)
        self.assertEqual(self.judged(1, 0, 7 * SECOND, 7), 0)

    def test_no_time_since(self):
        self.assertEqual(self.judged(EDGE, 5, 0, 5), 0)
        self.assertEqual(self.judged(EDGE, 5, 0, 6), 8)
        self.assertEqual(self.judged(EDGE, 5, 0, 4), 8)
        self.assertEqual(self.judged(1, 5, 0, 5), 0)

    def test_with_great_numbers(self):
        # The difference is 2^63; a step of 2^62 takes just 2 seconds for it.
        self.assertEqual(self.judged(EDGE, -EDGE, 2 * SECOND, EDGE), 0)
        self.assertEqual(self.judged(EDGE, EDGE, 2 * SECOND, -EDGE), 0)
        self.assertEqual(self.judged(EDGE, -EDGE, 2 * SECOND - 1, EDGE), 8)
        self.assertEqual(self.judged(EDGE - 1, -EDGE, 2 * SECOND, EDGE), 8)
        self.assertEqual(self.judged(EDGE - 1, -EDGE, 2 * SECOND, EDGE - 2), 0)
        self.assertEqual(self.judged(EDGE - 1, -EDGE, 2 * SECOND, EDGE - 1), 8)

    def test_with_a_great_time(self):
        def judged(step, t, second):
            return last(set_up(5, -EDGE, EDGE, step=step), came(5, 0, -EDGE), came(5, t, second))

        self.assertEqual(judged(SECOND, EDGE, 0), 0)
        self.assertEqual(judged(SECOND, EDGE, 1), 8)
        self.assertEqual(judged(SECOND, EDGE - 1, 0), 8)
        self.assertEqual(judged(2 * SECOND, EDGE, EDGE), 0)
        self.assertEqual(judged(2 * SECOND, EDGE - 1, EDGE), 8)
        self.assertEqual(judged(EDGE, EDGE, EDGE), 0)

    def test_a_step_of_0_is_as_it_likes(self):
        self.assertEqual(self.judged(0, -EDGE, 0, EDGE), 0)
        self.assertEqual(self.judged(0, 0, 1, 1), 0)

    def test_nothing_good_before(self):
        calls = [set_up(5, 0, 100, step=1)]
        self.assertEqual(last(*calls, came(5, 0, 100)), 0)
        self.assertEqual(last(*calls, came(5, 0, 101), came(5, 0, 0)), 0)
        self.assertEqual(last(*calls, came(5, 0, NONE), came(5, 0, 100)), 0)
        self.assertEqual(last(*calls, came(5, 0, 101), came(5, 0, 5000)), 4)

    def test_held_against_the_last_good_one_not_the_last(self):
        # 10 at 0 is good, 30 at 1 s jumped: against 10, 30 is right from 20 s on.
        calls = [set_up(5, step=1), came(5, 0, 10), came(5, SECOND, 30)]
        self.assertEqual(ask(*calls)[1:], [0, 8])
        self.assertEqual(last(*calls, came(5, SECOND, 11)), 0)
        self.assertEqual(last(*calls, came(5, SECOND + 1, 30)), 8)
        self.assertEqual(last(*calls, came(5, 20 * SECOND - 1, 30)), 8)
        self.assertEqual(last(*calls, came(5, 20 * SECOND, 30)), 0)

    def test_none_between_leaves_the_last_good_one(self):
        calls = [set_up(5, step=1), came(5, 0, 10), came(5, SECOND, NONE)]
        self.assertEqual(last(*calls, came(5, 2 * SECOND, 12)), 0)
        self.assertEqual(last(*calls, came(5, 2 * SECOND, 13)), 8)

    def test_a_later_good_one_takes_its_place(self):
        calls = [set_up(5, step=1), came(5, 0, 10), came(5, SECOND, 11)]
        self.assertEqual(last(*calls, came(5, 2 * SECOND, 12)), 0)
        self.assertEqual(last(*calls, came(5, 2 * SECOND, 13)), 8)
        self.assertEqual(last(*calls, came(5, 2 * SECOND, 9)), 8)

    def test_a_step_that_is_set_later_is_held_against_what_came_before(self):
        calls = [set_up(5), came(5, 0, 10), set_up(5, step=1)]
        self.assertEqual(last(*calls, came(5, SECOND, 12)), 8)
        self.assertEqual(last(*calls, came(5, SECOND, 11)), 0)


class InARow(unittest.TestCase):
    def judged(self, same, *values):
        """The qualities of values, one behind another."""
        return ask(set_up(5, same=same), *[came(5, t, value) for t, value in enumerate(values)])[1:]

    def times(self, *values, same=0):
        return last(set_up(5, same=same), *[came(5, 0, value) for value in values], look(5))[-1]

    def test_0_is_as_it_likes(self):
        self.assertEqual(self.judged(0, *[7] * 50), [0] * 50)

    def test_1_is_never(self):
        self.assertEqual(self.judged(1, 7, 8, 8, 9), [16, 16, 16, 16])

    def test_2_is_once(self):
        self.assertEqual(self.judged(2, 7, 7, 7, 8, 7, 7), [0, 16, 16, 0, 0, 16])

    def test_3_and_more(self):
        self.assertEqual(self.judged(3, 7, 7, 7, 7), [0, 0, 16, 16])
        self.assertEqual(self.judged(50, *[7] * 51), [0] * 49 + [16, 16])
        self.assertEqual(self.judged(EDGE, *[7] * 51), [0] * 51)

    def test_none_between_two_of_the_same(self):
        self.assertEqual(self.judged(2, 7, NONE, 7, 7), [0, 128, 0, 16])

    def test_another_between_two_of_the_same(self):
        self.assertEqual(self.judged(2, 7, 8, 7, 8), [0, 0, 0, 0])

    def test_the_same_where_it_was_not_good(self):
        self.assertEqual(self.judged(2, 101, 101, 101), [4, 20, 20])
        self.assertEqual(self.judged(3, -1, -1, -1), [2, 2, 18])
        self.assertEqual(self.times(101, 101), 2)
        self.assertEqual(self.times(7, 7, 7, same=2), 3)

    def test_held_against_the_last_not_the_last_good_one(self):
        self.assertEqual(self.judged(2, 7, 101, 7), [0, 4, 0])

    def test_how_often_is_told(self):
        self.assertEqual(self.times(), 0)
        self.assertEqual(self.times(7), 1)
        self.assertEqual(self.times(7, 7, 7), 3)
        self.assertEqual(self.times(7, 7, 8), 1)
        self.assertEqual(self.times(7, 8, 7), 1)
        self.assertEqual(self.times(NONE), 0)
        self.assertEqual(self.times(NONE, NONE), 0)
        self.assertEqual(self.times(7, 7, NONE), 0)
        self.assertEqual(self.times(7, NONE, 7), 1)
        self.assertEqual(self.times(NONE, NONE, 7, 7), 2)

    def test_the_first_value_is_0(self):
        self.assertEqual(self.judged(2, 0, 0), [0, 16])

    def test_how_often_goes_on_when_it_is_set_anew(self):
        calls = [set_up(5), came(5, 0, 7), came(5, 0, 7), set_up(5, same=3)]
        self.assertEqual(last(*calls, came(5, 0, 7)), 16)
        self.assertEqual(last(*calls, came(5, 0, 8)), 0)


class Several(unittest.TestCase):
    def test_below_and_jumped(self):
        self.assertEqual(last(set_up(5, step=1), came(5, 0, 50), came(5, 0, -1)), 2 + 8)

    def test_above_and_jumped(self):
        self.assertEqual(last(set_up(5, step=1), came(5, 0, 50), came(5, 0, 101)), 4 + 8)

    def test_jumped_and_stuck(self):
        calls = [set_up(5, step=1, same=2), came(5, 0, 50), came(5, 0, 60)]
        self.assertEqual(ask(*calls, came(5, 0, 60))[1:], [0, 8, 8 + 16])

    def test_below_and_stuck_above_and_stuck(self):
        self.assertEqual(last(set_up(5, same=1), came(5, 0, -1)), 2 + 16)
        self.assertEqual(last(set_up(5, same=1), came(5, 0, 101)), 4 + 16)

    def test_below_or_above_and_jumped_and_stuck(self):
        calls = [set_up(5, step=1, same=2), came(5, 0, 50)]
        self.assertEqual(ask(*calls, came(5, 0, -1), came(5, 0, -1))[2:], [2 + 8, 2 + 8 + 16])
        self.assertEqual(ask(*calls, came(5, 0, 101), came(5, 0, 101))[2:], [4 + 8, 4 + 8 + 16])

    def test_stuck_alone(self):
        self.assertEqual(last(set_up(5, step=1, same=2), came(5, 0, 50), came(5, 0, 50)), 16)

    def test_what_is_stuck_is_not_the_last_good_one(self):
        calls = [set_up(5, same=2), came(5, 0, 50), came(5, 3, 50)]
        self.assertEqual(last(*calls, look(5)), [0, 3, 50, 16, 0, 50, 2])


if __name__ == "__main__":
    unittest.main()
