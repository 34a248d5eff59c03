"""Promise 6: ends."""

import unittest

from tests.helper import CLEAR, ENDS, NAMES, STATE, behind, ends_behind, numbers_of, run, take

# A value under way, by the state that it leaves: it may stand alone, in an array and in an object.
UNDER_WAY = {
    "after": (b"0 ", b"null", b"true", b"false", b'"a"', b"[]", b"{}", b"[1,2]", b'{"a":1}', b"-1.5e3\n", b"[[]] "),
    "string": (b'"', b'"a', b'"\\n', b'"\\u1234'),
    "escape": (b'"\\', b'"a\\'),
    "hex": (b'"\\u', b'"\\u123'),
    "minus": (b"-",),
    "zero": (b"0", b"-0"),
    "whole": (b"1", b"-90"),
    "point": (b"0.", b"-1."),
    "fraction": (b"0.0", b"-1.25"),
    "e": (b"1e", b"0.5E"),
    "sign": (b"1e+", b"0E-"),
    "exponent": (b"1e5", b"-0.5E-07"),
    "word": (b"t", b"fals", b"nul"),
    "bad": (b"x", b"-x", b"01", b"1.x", b"nulx", b'"\n', b"0 x", b"1]", b"1}", b"true,"),
}
# States that stand only where something is open.
WITHIN = {
    "first": (b"[", b"[ "),
    "member": (b"{", b"{\t"),
    "key": (b'{"a":1,', b'{"a":1, '),
    "colon": (b'{"a"', b'{"a" '),
}
MAY_END = ("after", "zero", "whole", "fraction", "exponent")


class Ends(unittest.TestCase):
    def check(self, data, name, wanted):
        with self.subTest(data=data, state=name):
            self.assertEqual(behind(data), STATE[name])
            self.assertEqual(ends_behind(data), wanted)

    def test_in_each_state_with_nothing_open(self):
        self.check(b"", "value", 0)
        self.check(b" \t\n\r", "value", 0)
        for name, texts in UNDER_WAY.items():
            for data in texts:
                self.check(data, name, 1 if name in MAY_END else 0)
                self.check(b" " + data, name, 1 if name in MAY_END else 0)

    def test_in_each_state_within_an_array_and_an_object(self):
        reached = set()
        for around in (b"[", b"[0,", b'{"a":', b'{"a":0,"b":', b"[[],", b'[{"a":', b'{"a":['):
            if not around.endswith(b"["):
                self.check(around, "value", 0)
                reached.add("value")
            for name, texts in list(UNDER_WAY.items()) + list(WITHIN.items()):
                reached.add(name)
                for data in texts:
                    if data not in (b"1]", b"1}", b"true,"):
                        self.check(around + data, name, 0)
        self.assertEqual(sorted(reached), sorted(NAMES))

    def test_behind_the_first_and_the_second_comma_and_colon(self):
        self.check(b"[0,", "value", 0)
        self.check(b'{"a":', "value", 0)
        for name, texts in WITHIN.items():
            for data in texts:
                self.check(data, name, 0)

    def test_only_when_the_last_one_is_closed(self):
        data = b'[{"a":[1]},{}]'
        told = numbers_of(CLEAR + [n for c in data for n in run([c]) + ENDS])
        self.assertEqual(told[2::2], [0] * (len(data) - 1) + [1])
        self.assertEqual(ends_behind(b"[" * 1000 + b"]" * 999), 0)
        self.assertEqual(ends_behind(b"[" * 1000 + b"]" * 1000), 1)

    def test_a_text_that_goes_on_behind_its_end(self):
        self.assertEqual(ends_behind(b"[1] \n"), 1)
        for data in (b"[1]]", b"[1],", b"{}}", b"1,", b"1 2", b"nulll", b'""""', b"[" * 1001):
            with self.subTest(data=data[:10]):
                self.assertEqual(ends_behind(data), 0)

    def test_bad_with_nothing_open_and_then_clear(self):
        told = numbers_of(CLEAR + ENDS + run(b"1x") + ENDS + run(b" ") + ENDS + CLEAR + ENDS + run(b"1") + ENDS)
        self.assertEqual(told, [0, 0, STATE["bad"], 0, STATE["bad"], 0, 0, 0, STATE["whole"], 1])

    def test_it_ends_no_number(self):
        told = numbers_of(CLEAR + run(b"1") + ENDS + take(STATE["whole"], ord("2")) + ENDS + run(b".") + ENDS
                          + run(b"5") + ENDS + run(b"e") + ENDS)
        self.assertEqual(told, [0, STATE["whole"], 1, STATE["whole"], 1, STATE["point"], 0, STATE["fraction"], 1,
                                STATE["e"], 0])

    def test_a_refused_take_leaves_it(self):
        for c in (-1, 256):
            self.assertEqual(numbers_of(CLEAR + run(b"[]") + take(STATE["after"], c) + ENDS)[2:], [-1, 1])
            self.assertEqual(numbers_of(CLEAR + run(b"[0") + take(STATE["zero"], c) + ENDS)[2:], [-1, 0])


if __name__ == "__main__":
    unittest.main()
