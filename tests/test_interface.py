"""The interface: one list of calls in, one list of answers out."""

import contextlib
import inspect
import io
import unittest

from helper import NONE, UNHEARD, VOTED, begin, came, clear, joined, look, now, out, set_all, set_up, split, stand, vote
from trustvote import channels
from trustvote.channels import answers

MIXED = joined([
    set_up(0), set_up(1, -5, 5, 1, 2, 3, 4), stand(0, 1), vote(2, (0, 3), (1, 4), tolerance=9), stand(1, 2),
    clear(1), set_up(1), vote(3), vote(64, 0, 1), came(1, 5, 7), came(0, 5, NONE), now(0, 6), now(2, 6), out(2, 6),
    look(0), look(2), came(0, 7, 9), out(2, 7), now(4, 7), out(1, 7), look(64), begin(), clear(0), set_up(0),
    look(0), clear(0),
])
MIXED_ANSWERS = [
    [0], [0], [0], [0], [-3], [-4], [1], [-1], [-1], [0], [128], [192, 7, 500], [0, 7, 571], [0],
    [0, 5, NONE, 128, -1, NONE, 0], VOTED, [0], [0], [-2], [-2], [-1], [0], [-2], [0], UNHEARD, [0],
]


class Interface(unittest.TestCase):
    def test_its_name_and_arguments(self):
        self.assertEqual(list(inspect.signature(channels.answers).parameters), ["calls"])

    def test_the_numbers_as_they_stand(self):
        self.assertEqual(answers([0]), [1, 0])
        self.assertEqual(answers([1, 7, -3, 3, 0, 0, 0, 0]), [1, 0])
        self.assertEqual(answers([1, 7, -3, 3, 0, 0, 0, 0, 1, 7, -3, 3, 0, 0, 0, 0]), [1, 0, 1, 1])
        self.assertEqual(answers([2, 7, 64]), [1, -2])
        self.assertEqual(answers([3, 7, 0, 0]), [1, -1])
        self.assertEqual(answers([3, 7, 0, 4, 8, 1, 9, 1]), [1, -2])
        self.assertEqual(answers([4, 7]), [1, -2])
        self.assertEqual(answers([5, 7, 0, 1]), [1, -2])
        self.assertEqual(answers([6, 7, 0]), [1, -2])
        self.assertEqual(answers([7, 7, 0]), [1, -2])
        self.assertEqual(answers([8, 7]), [1, -2])

    def test_the_numbers_of_what_came_as_they_stand(self):
        calls = [1, 7, -3, 3, 0, 0, 0, 0, 5, 7, 20, -2, 6, 7, 30, 8, 7]
        self.assertEqual(answers(calls), [1, 0, 1, 0, 3, 0, -2, 1000, 7, 0, 20, -2, 0, 20, -2, 1])
        calls = [1, 7, -3, 3, 0, 0, 0, 0, 5, 7, 20, -2 ** 63, 6, 7, 30, 8, 7]
        self.assertEqual(answers(calls), [
            1, 0, 1, 128, 3, 128, -9223372036854775808, 0,
            7, 0, 20, -9223372036854775808, 128, -1, -9223372036854775808, 0,
        ])

    def test_the_numbers_of_a_vote_as_they_stand(self):
        measured = [1, 7, 0, 9, 0, 0, 0, 0, 1, 8, 0, 9, 0, 0, 0, 0, 5, 7, 0, 2, 5, 8, 0, 6]
        calls = measured + [3, 9, 1, 4, 7, 3, 8, 1, 6, 9, 0, 7, 9, 0, 8, 9]
        self.assertEqual(answers(calls), [1, 0, 1, 0, 1, 0, 1, 0] + [
            1, 0, 3, 0, 2, 750, 2, 1, 8, 7, 1, -1, -9223372036854775808, 0, -1, -9223372036854775808, 0,
        ])

    def test_each_call_has_its_answer_with_its_length(self):
        self.assertEqual(split(answers(MIXED)), MIXED_ANSWERS)
        self.assertEqual(answers(MIXED), joined([len(answer), *answer] for answer in MIXED_ANSWERS))

    def test_whole_numbers_in_a_list(self):
        told = answers(MIXED)
        self.assertIs(type(told), list)
        self.assertEqual({type(number) for number in told}, {int})

    def test_what_is_handed_in_is_not_changed(self):
        calls = list(MIXED)
        told = answers(calls)
        self.assertEqual(calls, MIXED)
        told.append(0)
        self.assertEqual(calls, MIXED)

    def test_not_for_a_while_either(self):
        class Watched(list):
            """A list that may be read alone."""

            def refuse(self, *arguments, **named):
                raise AssertionError("the list was changed")

            append = extend = insert = pop = remove = clear = sort = reverse = refuse
            __setitem__ = __delitem__ = __iadd__ = __imul__ = refuse

        self.assertEqual(answers(Watched(MIXED)), answers(MIXED))

    def test_nothing_is_kept_from_one_time_to_the_next(self):
        self.assertEqual(answers(MIXED), answers(MIXED))
        everything = joined(set_all(*range(64)))
        self.assertEqual(answers(everything), [1, 0] * 64)
        self.assertEqual(answers(everything), [1, 0] * 64)
        self.assertEqual(answers(clear(0)), [1, -2])
        self.assertEqual(answers(look(0)), [1, -2])

    def test_what_came_is_not_kept_from_one_time_to_the_next(self):
        calls = joined([set_up(0, same=2), came(0, 5, 7), now(0, 5), look(0)])
        self.assertEqual(split(answers(calls)), [[0], [0], [0, 7, 1000], [0, 5, 7, 0, 5, 7, 1]])
        self.assertEqual(answers(calls), answers(calls))
        self.assertEqual(split(answers(set_up(0) + look(0))), [[0], UNHEARD])

    def test_an_answer_is_its_own_list_each_time(self):
        told = answers(MIXED)
        told[1] = 99
        self.assertEqual(answers(MIXED)[1], 0)

    def test_it_prints_nothing(self):
        out = io.StringIO()
        err = io.StringIO()
        with contextlib.redirect_stdout(out), contextlib.redirect_stderr(err):
            answers(MIXED)
        self.assertEqual(out.getvalue() + err.getvalue(), "")

    def test_three_hundred_calls(self):
        calls = []
        for c in range(50):
            calls += [set_up(c), set_up(c), clear(c), set_up(c), stand(c, c), stand(c, 64)]
        told = split(answers(joined(calls)))
        self.assertEqual(told, [[0], [1], [0], [0], [-3], [0]] * 50)

    def test_three_hundred_calls_of_all_kinds(self):
        calls = []
        expected = []
        for t in range(20):
            calls += [set_up(0), set_up(1, 0, 9), stand(0, 1), vote(2, 0, (1, 2), tolerance=t), look(2)]
            expected += [[0], [0], [0], [0], VOTED]
            calls += [came(1, t, 5), now(0, t), came(0, t, 5 + 2 * t), now(2, t), out(2, t)]
            # 0 is 2 t away from the middle, 5: out, but for the first time.
            expected += [[0], [65, 5, 500], [0], [0, 5, 666 if t > 0 else 1000], [1, 0] if t > 0 else [0]]
            calls += [look(1), clear(1), clear(2), now(2, t), begin()]
            expected += [[0, t, 5, 0, t, 5, 1], [-4], [0], [-2], [0]]
        self.assertEqual(len(calls), 300)
        handed = joined(calls)
        before = list(handed)
        told = answers(handed)
        self.assertEqual(split(told), expected)
        self.assertEqual(handed, before)
        self.assertEqual(answers(handed), told)

    def test_a_list_of_nearly_sixteen_thousand_numbers(self):
        many = vote(63, *[(c, 100) for c in range(40)])
        calls = [set_up(0)] + [many] * 189 + [set_up(0)]
        told = split(answers(joined(calls)))
        self.assertEqual(told, [[0]] + [[-1]] * 189 + [[1]])
        widest = [set_up(c) for c in range(16)] + [vote(63, *range(16))] * 284
        self.assertEqual(split(answers(joined(widest))), [[0]] * 300)


if __name__ == "__main__":
    unittest.main()
