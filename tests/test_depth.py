"""Promise 7: depth."""

import unittest

from tests.helper import CLEAR, DEPTH, NAMES, STATE, depth_behind, names_by_takes, numbers_of, run, take

ARRAYS = b"[" * 1000
MIXED = b'[{"a":' * 500


def depths_along(data):
    """How many are open behind each byte of data."""
    return numbers_of(CLEAR + [n for c in data for n in run([c]) + DEPTH])[2::2]


class Depth(unittest.TestCase):
    def test_with_nothing_open(self):
        self.assertEqual(numbers_of(CLEAR + DEPTH), [0, 0])
        for data in (b" ", b"1", b"-1.5e2 ", b'"[{"', b'"\\u12', b"tr", b"null", b"[]", b"{}", b'[{"a":[]}]',
                     b"x", b"]"):
            with self.subTest(data=data):
                self.assertEqual(depth_behind(data), 0)

    def test_opening_and_closing(self):
        self.assertEqual(depths_along(b"[[[]]]"), [1, 2, 3, 2, 1, 0])
        self.assertEqual(depths_along(b'{"":{"":{}}}'), [1, 1, 1, 1, 2, 2, 2, 2, 3, 2, 1, 0])
        self.assertEqual(depths_along(b'[{"":[0,[]]},{}] '),
                         [1, 2, 2, 2, 2, 3, 3, 3, 4, 3, 2, 1, 1, 2, 1, 0, 0])

    def test_in_each_state_within_one(self):
        reached = set()
        for data in (b'[-1.5e+3,0,"\\u0000",true]', b'{"a":1,"b" :[] }'):
            reached |= set(names_by_takes(data).split())
            self.assertEqual([depth for depth in depths_along(data) if depth == 0], [0])
        self.assertEqual(sorted(reached | {"bad"}), sorted(NAMES))

    def test_brackets_in_strings_and_keys(self):
        self.assertEqual(depth_behind(b'["[[{'), 1)
        self.assertEqual(depth_behind(b'{"[{":"}]"'), 1)

    def test_at_the_bound(self):
        self.assertEqual(depths_along(ARRAYS), list(range(1, 1001)))
        for nested in (ARRAYS, MIXED):
            self.assertEqual(depth_behind(nested), 1000)
            for opener in (b"[", b"{"):
                told = numbers_of(CLEAR + run(nested) + run(opener) + DEPTH + run(b"]}]") + DEPTH)
                self.assertEqual(told[2:], [STATE["bad"], 1000, STATE["bad"], 1000])
        self.assertEqual(depth_behind(b"[" * 999 + b"{"), 1000)
        self.assertEqual(depth_behind(ARRAYS + b"]"), 999)
        self.assertEqual(depth_behind(ARRAYS + b"],["), 1000)
        self.assertEqual(depth_behind(ARRAYS + b"]" * 1000), 0)
        self.assertEqual(depth_behind(MIXED + b"1" + b"}]" * 500), 0)

    def test_in_bad_what_is_open_stays(self):
        for data, wanted in ((b"[x", 1), (b"[[}", 2), (b'{"a":[1}', 2), (b"[{]", 2), (b'[{"a"]', 2), (b"[1,]", 1),
                             (b'[[["\n', 3), (b"[[1x", 2), (b"[[tx", 2), (b"[]]", 0), (b"1[", 0), (b"[1 [", 1)):
            with self.subTest(data=data):
                told = numbers_of(CLEAR + run(data) + DEPTH + run(b"[{]}") + DEPTH)
                self.assertEqual(told[1:], [STATE["bad"], wanted, STATE["bad"], wanted])

    def test_a_number_that_is_closed_upon(self):
        for number in (b"0", b"-12", b"1.5", b"2e3"):
            self.assertEqual(depth_behind(b"[[" + number), 2)
            self.assertEqual(depth_behind(b"[[" + number + b"]"), 1)
            self.assertEqual(depth_behind(b'[{"a":' + number + b"}"), 1)
            self.assertEqual(depth_behind(b"[[" + number + b"}"), 2)

    def test_behind_clear(self):
        for data in (b"[", b'{"a":[', ARRAYS, ARRAYS + b"[", b"[[x"):
            self.assertEqual(numbers_of(CLEAR + run(data) + CLEAR + DEPTH + run(b"[") + DEPTH)[2:],
                             [0, 0, STATE["first"], 1])

    def test_a_refused_take_leaves_it(self):
        for c in (-1, 256, 256 + ord("["), 256 + ord("]")):
            self.assertEqual(numbers_of(CLEAR + run(b"[[") + take(STATE["first"], c) + DEPTH)[2:], [-1, 2])


if __name__ == "__main__":
    unittest.main()
