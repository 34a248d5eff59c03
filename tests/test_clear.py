"""Promise 1: clear."""

import unittest

from jsonstates.reader import answers

from tests.helper import CLEAR, DEPTH, NONE_COUNTED, SEEN_ALL, STATE, numbers_of, run, take

UNDER_WAY = (
    b"", b" ", b"[", b"{", b"[[{", b'{"a"', b'{"a":', b'{"a":1,', b"[1", b"[1,", b"[ ", b"-", b"0", b"12", b"1.",
    b"1.5", b"1e", b"1e+", b"1e5", b'"ab', b'"\\', b'"\\u', b'"\\u12', b'{"k', b'{"k\\u1', b"t", b"fal", b"nul",
    b"true", b"x", b"[}", b"[" * 1000, b"[" * 1001,
)


class Clear(unittest.TestCase):
    def test_at_the_beginning(self):
        self.assertEqual(answers([1]), [1, 0])
        self.assertEqual(answers([1, 1, 1]), [1, 0, 1, 0, 1, 0])

    def test_again_in_the_middle_of_a_text(self):
        for data in UNDER_WAY:
            with self.subTest(data=data[:20]):
                self.assertEqual(numbers_of(CLEAR + run(data) + CLEAR)[-1], STATE["value"])

    def test_what_follows_is_as_if_new(self):
        for following in (b"]", b",", b"}", b"1,", b'"a":', b'"\\u12345"', b"null", b"rue", b"[" * 1000, b'{"a":"b"}'):
            fresh = numbers_of(CLEAR + [n for c in following for n in run([c])])
            for data in UNDER_WAY:
                with self.subTest(data=data[:20], following=following[:20]):
                    again = numbers_of(CLEAR + run(data) + CLEAR + [n for c in following for n in run([c])])
                    self.assertEqual(again[2:], fresh)

    def test_nothing_is_open_afterwards(self):
        for opener in (b"[", b'{"a":'):
            told = numbers_of(CLEAR + run(opener * 7) + CLEAR + run(b"1 ") + run(b","))
            self.assertEqual(told[-2:], [STATE["after"], STATE["bad"]])

    def test_the_bound_is_free_again(self):
        told = numbers_of(CLEAR + run(b"[" * 1000) + CLEAR + run(b"[" * 1000) + take(STATE["first"], ord("[")))
        self.assertEqual(told, [0, STATE["first"], 0, STATE["first"], STATE["bad"]])

    def test_nothing_is_open_and_nothing_counted_afterwards(self):
        self.assertEqual(numbers_of(CLEAR + DEPTH + SEEN_ALL), [0, 0] + NONE_COUNTED)
        for data in UNDER_WAY + (b'[null,true,false,1,"s",[],{"k":{}}]', b'[null,true,false,1,"s",[],{"k":{},"l":2'):
            with self.subTest(data=data[:20]):
                self.assertEqual(numbers_of(CLEAR + run(data) + CLEAR + DEPTH + SEEN_ALL)[2:], [0, 0] + NONE_COUNTED)


if __name__ == "__main__":
    unittest.main()
