"""The interface: how calls and answers are laid out, and what stays as it was."""

import contextlib
import doctest
import inspect
import io
import pathlib
import unittest

from jsonstates.reader import answers

from tests.helper import (
    ASKING, CLEAR, DEPTH, ENDS, INT_HIGHEST, STATE, TABLE, TABLE_TOLD,
    numbers_of, of, rows_of, run, seen, take,
)

MIXED = (
    CLEAR + run(b'{"a":[1') + ASKING + take(11, 300) + take(11, ord("]")) + ASKING + of(19) + run(b"") + run(b"}")
    + ENDS + CLEAR + run(b"[") + of(3) + ASKING
)


class Interface(unittest.TestCase):
    def test_its_one_argument(self):
        self.assertEqual(list(inspect.signature(answers).parameters), ["calls"])
        self.assertEqual(answers(calls=[1]), [1, 0])

    def test_layout_of_calls_and_answers(self):
        self.assertEqual(answers([1, 3, 3, 91, 49, 44, 2, 0, 256, 2, 0, 93, 4, 7, 4, 19, 3, 0, 1]),
                         [1, 0, 1, 0, 1, -1, 1, 18, 1, 7, 1, -1, 1, 18, 1, 0])
        self.assertEqual(answers([1, 6, 7, 8, 3, 3, 3, 91, 49, 44, 6, 7, 8, 3, 8, -1, 5, 8, 8, 7]),
                         [1, 0, 1, 0, 1, 0, 1, 0, 1, 0, 1, 0, 1, 1, 1, 1, 1, -1, 20, 0] + list(range(19))
                         + [1, -1, 1, 1])

    def test_bytes_that_look_like_calls(self):
        self.assertEqual(answers([1, 3, 4, 1, 2, 3, 4, 1]), [1, 0, 1, 18, 1, 0])
        self.assertEqual(answers([1, 3, 1, 9, 4, 1, 2, 0, 13]), [1, 0, 1, 0, 1, 1, 1, 0])
        self.assertEqual(answers([1, 3, 4, 5, 6, 7, 8, 7]), [1, 0, 1, 18, 1, 0])
        self.assertEqual(answers([1, 4, 8, 8, 4, 8, 8, 4, 5, 6]), [1, 0, 1, 8, 1, 0, 1, -1, 1, 5, 1, 0])
        self.assertEqual(answers([1, 8, 5, 8, 6, 8, 7, 8, 1]), [1, 0] + [1, 0] * 4)

    def test_answers_are_whole_numbers_in_a_list(self):
        told = answers(list(MIXED))
        self.assertIs(type(told), list)
        self.assertEqual({type(number) for number in told}, {int})
        for data in (b"", b"1", b"[]", b"[", b"x", b'{"a":null}'):
            told = answers(CLEAR + run(data) + ASKING)
            self.assertEqual({type(number) for number in told}, {int})

    def test_what_is_handed_in_is_the_same_afterwards(self):
        calls = list(MIXED)
        answers(calls)
        self.assertEqual(calls, MIXED)

    def test_what_is_handed_in_is_not_changed_for_a_while_either(self):
        class Guarded(list):
            def refuse(self, *rest):
                raise AssertionError("the calls were changed")

            append = extend = insert = pop = remove = reverse = sort = clear = refuse
            __setitem__ = __delitem__ = __iadd__ = __imul__ = refuse

        self.assertEqual(answers(Guarded(MIXED)), answers(list(MIXED)))

    def test_nothing_is_kept_from_one_time_to_the_next(self):
        first = answers(list(MIXED))
        answers(CLEAR + run(b"[" * 1001))
        answers(CLEAR + run(b'{"a\\u1'))
        answers(CLEAR + run(b"[fal"))
        second = answers(list(MIXED))
        self.assertEqual(first, second)
        first.append(99)
        self.assertEqual(answers(list(MIXED)), second)

    def test_the_same_list_again_gives_the_same(self):
        calls = list(MIXED)
        first = answers(calls)
        self.assertEqual(answers(calls), first)
        self.assertEqual(answers(list(calls)), first)
        self.assertEqual(calls, MIXED)

    def test_the_longest_run(self):
        self.assertEqual(numbers_of(CLEAR + run(b" " * 29000)), [0, 0])
        text = b"[" + b"0," * 14499 + b"1"
        self.assertEqual(len(text), 29000)
        self.assertEqual(numbers_of(CLEAR + run(text) + DEPTH + seen(3) + run(b"]") + DEPTH + seen(3) + seen(5) + ENDS),
                         [0, STATE["whole"], 1, 14499, STATE["after"], 0, 14500, 1, 1])
        nested = b"[" * 1000 + b"]" * 1000
        self.assertEqual(numbers_of(CLEAR + run(nested) + ENDS + seen(5)), [0, STATE["after"], 1, 1000])

    def test_5000_calls(self):
        self.assertEqual(numbers_of(CLEAR + take(0, 32) * 4999), [0] * 5000)
        self.assertEqual(numbers_of(CLEAR + of(INT_HIGHEST) * 4999), [0] + [-1] * 4999)
        self.assertEqual(numbers_of(CLEAR * 5000), [0] * 5000)
        self.assertEqual(rows_of(CLEAR + TABLE * 4999), [[0]] + [TABLE_TOLD] * 4999)
        self.assertEqual(numbers_of(CLEAR + ENDS * 4999), [0] * 5000)
        self.assertEqual(numbers_of(CLEAR + run(b"[") + DEPTH * 4998), [0] + [1] * 4999)
        self.assertEqual(numbers_of(CLEAR + run(b"1 ") + seen(3) * 4998)[2:], [1] * 4998)
        told = numbers_of(CLEAR + take(0, ord("[")) + (run(b"1,") + seen(3)) * 2499)
        self.assertEqual((len(told), told[3::2]), (5000, list(range(1, 2500))))

    def test_30000_numbers(self):
        text = b'["' + b"a" * 28998
        calls = CLEAR + run(text) + (ENDS + DEPTH + seen(4)) * 248 + run(b'"') + seen(4)
        self.assertEqual(len(calls), 30000)
        self.assertEqual(numbers_of(calls), [0, STATE["string"]] + [0, 1, 0] * 248 + [STATE["after"], 1])

    def test_30000_numbers_in_5000_calls(self):
        calls = CLEAR + run(b"[" + b"1," * 2500) + TABLE * 4997 + run(b"2" * 19997)
        self.assertEqual(len(calls), 30000)
        rows = rows_of(calls)
        self.assertEqual(len(rows), 5000)
        self.assertEqual(rows, [[0], [STATE["value"]]] + [TABLE_TOLD] * 4997 + [[STATE["whole"]]])

    def test_nothing_is_printed(self):
        printed = io.StringIO()
        with contextlib.redirect_stdout(printed), contextlib.redirect_stderr(printed):
            answers(list(MIXED))
        self.assertEqual(printed.getvalue(), "")

    def test_the_examples_of_the_readme(self):
        readme = pathlib.Path(__file__).resolve().parent.parent / "README.md"
        failed, tried = doctest.testfile(str(readme), module_relative=False)
        self.assertEqual((failed, tried), (0, 3))


if __name__ == "__main__":
    unittest.main()
