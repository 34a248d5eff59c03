"""Promise 5: table."""

import unittest

from jsonstates.reader import answers

from tests.helper import CLEAR, NAMES, STATE, TABLE, TABLE_TOLD, numbers_of, of, rows_of, run, take

TOLD = [20, 0, 0, 1, 2, 3, 4, 5, 6, 7, 8, 9, 10, 11, 12, 13, 14, 15, 16, 17, 18]


class Table(unittest.TestCase):
    def test_at_the_beginning(self):
        self.assertEqual(answers([1, 5]), [1, 0] + TOLD)
        self.assertEqual(answers([1, 5, 5, 1, 5]), [1, 0] + TOLD + TOLD + [1, 0] + TOLD)

    def test_in_the_middle_of_a_text(self):
        for data in (b" ", b'[{"a":[1', b'"\\u12', b"tru", b"-", b"12", b"[1] ", b"[" * 1000):
            with self.subTest(data=data[:10]):
                self.assertEqual(rows_of(CLEAR + run(data) + TABLE)[-1], TABLE_TOLD)

    def test_in_the_state_bad(self):
        for data in (b"x", b"[}", b"1x", b"[" * 1001):
            with self.subTest(data=data[:10]):
                self.assertEqual(rows_of(CLEAR + run(data) + TABLE)[1:], [[STATE["bad"]], TABLE_TOLD])

    def test_its_numbers_are_those_that_of_takes(self):
        states = rows_of(CLEAR + TABLE)[1][1:]
        self.assertEqual(numbers_of(CLEAR + [n for k in states for n in of(k)])[1:], states)
        self.assertEqual(len(states), len(NAMES))

    def test_it_changes_nothing(self):
        told = rows_of(CLEAR + run(b'["\\u12') + TABLE + take(STATE["hex"], ord("3")) + TABLE + run(b'4"') + TABLE
                       + take(STATE["after"], ord("]")))
        self.assertEqual(told[1::2], [[STATE["hex"]], [STATE["hex"]], [STATE["after"]], [STATE["after"]]])
        self.assertEqual(told[2::2], [TABLE_TOLD] * 3)

    def test_what_is_given_back_is_not_kept(self):
        first = answers([1, 5])
        first[2:] = [7] * 20
        self.assertEqual(answers([1, 5]), [1, 0] + TOLD)


if __name__ == "__main__":
    unittest.main()
