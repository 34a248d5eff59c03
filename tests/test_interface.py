"""The interface: how calls and answers are laid out, and what stays as it was."""

import contextlib
import inspect
import io
import unittest

from jsonstates.reader import answers

from tests.helper import CLEAR, INT_HIGHEST, STATE, numbers_of, of, run, take

MIXED = CLEAR + run(b'{"a":[1') + take(11, 300) + take(11, ord("]")) + of(19) + run(b"") + CLEAR + run(b"[") + of(3)


class Interface(unittest.TestCase):
    def test_its_one_argument(self):
        self.assertEqual(list(inspect.signature(answers).parameters), ["calls"])
        self.assertEqual(answers(calls=[1]), [1, 0])

    def test_layout_of_calls_and_answers(self):
        self.assertEqual(answers([1, 3, 3, 91, 49, 44, 2, 0, 256, 2, 0, 93, 4, 7, 4, 19, 3, 0, 1]),
                         [1, 0, 1, 0, 1, -1, 1, 18, 1, 7, 1, -1, 1, 18, 1, 0])

    def test_bytes_that_look_like_calls(self):
        self.assertEqual(answers([1, 3, 4, 1, 2, 3, 4, 1]), [1, 0, 1, 18, 1, 0])
        self.assertEqual(answers([1, 3, 1, 9, 4, 1, 2, 0, 13]), [1, 0, 1, 0, 1, 1, 1, 0])

    def test_answers_are_whole_numbers_in_a_list(self):
        told = answers(list(MIXED))
        self.assertIs(type(told), list)
        self.assertEqual({type(number) for number in told}, {int})

    def test_what_is_handed_in_is_the_same_afterwards(self):
        calls = list(MIXED)
        answers(calls)
        self.assertEqual(calls, MIXED)

    def test_what_is_handed_in_is_not_changed_for_a_while_either(self):
        class Guarded(list):
            def refuse(self, *rest):
                raise AssertionError("the calls were changed")

            append = extend = insert = pop = remove = reverse = sort = clear = refuse
            __setitem__ = __delitem__ = __iadd__ = __imul__ = refuse

        self.assertEqual(answers(Guarded(MIXED)), answers(list(MIXED)))

    def test_nothing_is_kept_from_one_time_to_the_next(self):
        first = answers(list(MIXED))
        answers(CLEAR + run(b"[" * 1001))
        answers(CLEAR + run(b'{"a\\u1'))
        answers(CLEAR + run(b"[fal"))
        second = answers(list(MIXED))
        self.assertEqual(first, second)
        first.append(99)
        self.assertEqual(answers(list(MIXED)), second)

    def test_the_longest_lists(self):
        self.assertEqual(numbers_of(CLEAR + run(b" " * 29000)), [0, 0])
        self.assertEqual(numbers_of(CLEAR + take(0, 32) * 4999), [0] * 5000)
        self.assertEqual(numbers_of(CLEAR + of(INT_HIGHEST) * 4999), [0] + [-1] * 4999)
        self.assertEqual(numbers_of(CLEAR * 5000), [0] * 5000)
        self.assertEqual(numbers_of(CLEAR + run(b"[" * 1000 + b"]" * 1000)), [0, STATE["after"]])

    def test_nothing_is_printed(self):
        printed = io.StringIO()
        with contextlib.redirect_stdout(printed), contextlib.redirect_stderr(printed):
            answers(list(MIXED))
        self.assertEqual(printed.getvalue(), "")


if __name__ == "__main__":
    unittest.main()
