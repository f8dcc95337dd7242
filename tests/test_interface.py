"""The interface: one list of calls in, one list of answers out."""

import contextlib
import inspect
import io
import unittest

from helper import begin, clear, joined, set_all, set_up, split, stand, vote
from trustvote import channels
from trustvote.channels import answers

MIXED = joined([
    set_up(0), set_up(1, -5, 5, 1, 2, 3, 4), stand(0, 1), vote(2, (0, 3), (1, 4), tolerance=9), stand(1, 2),
    clear(1), set_up(1), vote(3), vote(64, 0, 1), begin(), clear(0), set_up(0), clear(0),
])
MIXED_ANSWERS = [0, 0, 0, 0, -3, -4, 1, -1, -1, 0, -2, 0, 0]


class Interface(unittest.TestCase):
    def test_its_name_and_arguments(self):
        self.assertEqual(list(inspect.signature(channels.answers).parameters), ["calls"])

    def test_the_numbers_as_they_stand(self):
        self.assertEqual(answers([0]), [1, 0])
        self.assertEqual(answers([1, 7, -3, 3, 0, 0, 0, 0]), [1, 0])
        self.assertEqual(answers([1, 7, -3, 3, 0, 0, 0, 0, 1, 7, -3, 3, 0, 0, 0, 0]), [1, 0, 1, 1])
        self.assertEqual(answers([2, 7, 64]), [1, -2])
        self.assertEqual(answers([3, 7, 0, 0]), [1, -1])
        self.assertEqual(answers([3, 7, 0, 4, 8, 1, 9, 1]), [1, -2])
        self.assertEqual(answers([4, 7]), [1, -2])

    def test_each_call_has_its_answer_with_its_length(self):
        self.assertEqual(answers(MIXED), joined([1, number] for number in MIXED_ANSWERS))

    def test_whole_numbers_in_a_list(self):
        told = answers(MIXED)
        self.assertIs(type(told), list)
        self.assertEqual({type(number) for number in told}, {int})

    def test_what_is_handed_in_is_not_changed(self):
        calls = list(MIXED)
        told = answers(calls)
        self.assertEqual(calls, MIXED)
        told.append(0)
        self.assertEqual(calls, MIXED)

    def test_not_for_a_while_either(self):
        class Watched(list):
            """A list that may be read alone."""

            def refuse(self, *arguments, **named):
                raise AssertionError("the list was changed")

            append = extend = insert = pop = remove = clear = sort = reverse = refuse
            __setitem__ = __delitem__ = __iadd__ = __imul__ = refuse

        self.assertEqual(answers(Watched(MIXED)), answers(MIXED))

    def test_nothing_is_kept_from_one_time_to_the_next(self):
        self.assertEqual(answers(MIXED), answers(MIXED))
        everything = joined(set_all(*range(64)))
        self.assertEqual(answers(everything), [1, 0] * 64)
        self.assertEqual(answers(everything), [1, 0] * 64)
        self.assertEqual(answers(clear(0)), [1, -2])

    def test_an_answer_is_its_own_list_each_time(self):
        told = answers(MIXED)
        told[1] = 99
        self.assertEqual(answers(MIXED)[1], 0)

    def test_it_prints_nothing(self):
        out = io.StringIO()
        err = io.StringIO()
        with contextlib.redirect_stdout(out), contextlib.redirect_stderr(err):
            answers(MIXED)
        self.assertEqual(out.getvalue() + err.getvalue(), "")

    def test_three_hundred_calls(self):
        calls = []
        for c in range(50):
            calls += [set_up(c), set_up(c), clear(c), set_up(c), stand(c, c), stand(c, 64)]
        told = split(answers(joined(calls)))
        self.assertEqual(told, [[0], [1], [0], [0], [-3], [0]] * 50)

    def test_a_list_of_nearly_sixteen_thousand_numbers(self):
        many = vote(63, *[(c, 100) for c in range(40)])
        calls = [set_up(0)] + [many] * 189 + [set_up(0)]
        told = split(answers(joined(calls)))
        self.assertEqual(told, [[0]] + [[-1]] * 189 + [[1]])
        widest = [set_up(c) for c in range(16)] + [vote(63, *range(16))] * 284
        self.assertEqual(split(answers(joined(widest))), [[0]] * 300)


if __name__ == "__main__":
    unittest.main()
