"""Promise 2: take, from each of the states."""

import unittest

from jsonstates.reader import Reader
from jsonstates.reader import run as run_reader
from jsonstates.reader import take as take_with

from tests.helper import (
    CLEAR, DIGITS, HEX_DIGITS, INT_HIGHEST, INT_LOWEST, NAMES, SPACES, STATE,
    behind, behind_take, is_whole, names_by_takes, numbers_of, run, states_by_takes, take,
)

# What a value may stand in: what comes ahead of it, and what after does with a byte there.
AROUND = (
    (b"", {SPACES: "after"}),
    (b"[", {SPACES: "after", b",": "value", b"]": "after"}),
    (b"[0,", {SPACES: "after", b",": "value", b"]": "after"}),
    (b'{"a":', {SPACES: "after", b",": "key", b"}": "after"}),
    (b'[{"a":0,"b":', {SPACES: "after", b",": "key", b"}": "after"}),
    (b'{"a":[', {SPACES: "after", b",": "value", b"]": "after"}),
)
VALUE_BEGINS = {
    b"{": "member", b"[": "first", b'"': "string", b"-": "minus", b"0": "zero", b"123456789": "whole", b"tfn": "word",
}
PLAIN = bytes(c for c in range(32, 256) if c not in b'"\\')
E_BEGINS = {b"eE": "e"}


def rows_anywhere():
    """Rows of: what is taken ahead, the state that is then reached, what it does with which bytes."""
    for ahead, after in AROUND:
        value = {SPACES: "value", **VALUE_BEGINS}
        for spaces in (b" ", SPACES):
            if not ahead.endswith(b"["):
                yield ahead + spaces, "value", value
            yield ahead + b"[" + spaces, "first", {**VALUE_BEGINS, SPACES: "first", b"]": "after"}
            yield ahead + b"{" + spaces, "member", {SPACES: "member", b'"': "string", b"}": "after"}
            yield ahead + b'{"k":0,' + spaces, "key", {SPACES: "key", b'"': "string"}
            yield ahead + b'{"k"' + spaces, "colon", {SPACES: "colon", b":": "value"}
            yield ahead + b"0" + spaces, "after", after
        for ended in (b"true", b"false", b"null", b'""', b"[]", b"{}", b"[0]", b'{"":0}'):
            yield ahead + ended, "after", after
        yield from rows_of_strings(ahead + b'"', "after")
        yield from rows_of_strings(ahead + b'{"', "colon")
        yield from rows_of_strings(ahead + b'{"k":0,"', "colon")
        yield from rows_of_numbers(ahead, after)
        yield from rows_of_words(ahead)
        for bad in (b"x", b"-x", b"[}", b'"\n', b"1x", b"nux", b"1e,"):
            yield ahead + bad, "bad", {}


def rows_of_strings(ahead, behind_it):
    string = {PLAIN: "string", b'"': behind_it, b"\\": "escape"}
    escape = {b'"\\/bfnrt': "string", b"u": "hex"}
    for so_far in (b"", b"a", b"\x7f\x80\xff", b"\\n", b"\\u0aF9", b"\\\\", b'\\"', b"\\u00000"):
        yield ahead + so_far, "string", string
        yield ahead + so_far + b"\\", "escape", escape
        for digits in (b"", b"0", b"aF"):
            yield ahead + so_far + b"\\u" + digits, "hex", {HEX_DIGITS: "hex"}
        yield ahead + so_far + b"\\u9fA", "hex", {HEX_DIGITS: "string"}


def rows_of_numbers(ahead, after):
    for minus in (b"", b"-"):
        yield ahead + minus + b"0", "zero", {**after, **E_BEGINS, b".": "point"}
        for whole in (b"1", b"9", b"10", b"907"):
            yield ahead + minus + whole, "whole", {**after, **E_BEGINS, b".": "point", DIGITS: "whole"}
        for whole in (b"0", b"7", b"10"):
            start = ahead + minus + whole
            yield start + b".", "point", {DIGITS: "fraction"}
            for fraction in (b".0", b".9", b".05"):
                yield start + fraction, "fraction", {**after, **E_BEGINS, DIGITS: "fraction"}
            for part in (b"e", b"E", b".5e", b".5E"):
                yield start + part, "e", {b"+-": "sign", DIGITS: "exponent"}
                yield start + part + b"0", "exponent", {**after, DIGITS: "exponent"}
                for sign in (b"+", b"-"):
                    yield start + part + sign, "sign", {DIGITS: "exponent"}
                    yield start + part + sign + b"09", "exponent", {**after, DIGITS: "exponent"}
    yield ahead + b"-", "minus", {b"0": "zero", b"123456789": "whole"}


def rows_of_words(ahead):
    for word in (b"true", b"false", b"null"):
        for length in range(1, len(word)):
            then = "after" if length == len(word) - 1 else "word"
            yield ahead + word[:length], "word", {word[length:length + 1]: then}


def every_byte(named):
    """The state that each byte from 0 to 255 leads to: bad, but for the bytes that are named."""
    wanted = [STATE["bad"]] * 256
    for some, name in named.items():
        for c in some:
            wanted[c] = STATE[name]
    return wanted


class EachState(unittest.TestCase):
    def test_each_byte_in_each_state(self):
        reached = set()
        for ahead, name, named in rows_anywhere():
            reached.add(name)
            with self.subTest(ahead=ahead, state=name):
                self.assertEqual(behind(ahead), STATE[name])
                calls = []
                for c in range(256):
                    calls += CLEAR + run(ahead) + take(STATE[name], c)
                self.assertEqual(numbers_of(calls)[2::3], every_byte(named))
        self.assertEqual(sorted(reached), sorted(NAMES))

    def test_a_text_of_every_kind_state_by_state(self):
        self.assertEqual(
            names_by_takes(b' {"a" : [-0.5e+1 ,true]}'),
            "value member string string colon colon value value first minus zero point fraction e sign exponent "
            "after value word word word after after after",
        )
        self.assertEqual(
            names_by_takes(b'[{"k":"\\u00Ff"},null , 10E2]'),
            "first member string string colon value string escape hex hex hex hex string after after value "
            "word word word after after value value whole whole e exponent after",
        )


class TheInnermost(unittest.TestCase):
    def test_closing_goes_back_to_what_is_around(self):
        cases = (
            (b"[[]", b"]", "after"), (b"[[]", b",", "value"), (b"[[]", b"}", "bad"),
            (b"[{}", b"]", "after"), (b"[{}", b",", "value"), (b"[{}", b"}", "bad"),
            (b'{"a":[]', b"}", "after"), (b'{"a":[]', b",", "key"), (b'{"a":[]', b"]", "bad"),
            (b'{"a":{}', b"}", "after"), (b'{"a":{}', b",", "key"), (b'{"a":{}', b"]", "bad"),
            (b'{"a":[1]', b"}", "after"), (b'{"a":[1]', b"]", "bad"), (b'[{"a":1}', b"]", "after"),
            (b'[{"a":1}', b"}", "bad"), (b"[]", b"]", "bad"), (b"{}", b"}", "bad"), (b"[]", b",", "bad"),
        )
        for ahead, c, name in cases:
            with self.subTest(ahead=ahead, c=c):
                self.assertEqual(behind_take(ahead, c[0]), STATE[name])

    def test_a_number_that_is_closed_upon_closes(self):
        for number in (b"0", b"-12", b"1.5", b"2e3"):
            for ahead, closer in ((b"[", b"]"), (b'{"a":', b"}")):
                with self.subTest(number=number, ahead=ahead):
                    self.assertTrue(is_whole(ahead + number + closer))
                    self.assertEqual(behind(b"[" + ahead + number + closer + b","), STATE["value"])
                    self.assertEqual(behind(b'{"a":' + ahead + number + closer + b","), STATE["key"])

    def test_a_comma_needs_what_follows_it(self):
        for data in (b"[1,]", b"[,", b'{"a":1,}', b"{,", b"[1,,", b'{"a":1,,', b'{"a":}', b'{"a"}', b'{"a",', b"[1 2"):
            with self.subTest(data=data):
                self.assertEqual(behind(data), STATE["bad"])


class KeysAndStrings(unittest.TestCase):
    def test_a_key_is_no_string_and_a_string_no_key(self):
        self.assertEqual(behind(b'{"a"'), STATE["colon"])
        self.assertEqual(behind(b'{"a":"b"'), STATE["after"])
        self.assertEqual(behind(b'{"a":"b","c"'), STATE["colon"])
        self.assertEqual(behind(b'{"a":["b"'), STATE["after"])
        self.assertEqual(behind(b'{"a":["b",{"c"'), STATE["colon"])
        self.assertEqual(behind(b'["b"'), STATE["after"])
        self.assertEqual(behind(b'"b"'), STATE["after"])

    def test_escapes_leave_a_key_a_key(self):
        for escape in (b'\\"', b"\\\\", b"\\/", b"\\b", b"\\f", b"\\n", b"\\r", b"\\t", b"\\u09aF"):
            with self.subTest(escape=escape):
                self.assertEqual(behind(b'{"' + escape + b'"'), STATE["colon"])
                self.assertEqual(behind(b'["' + escape + b'"'), STATE["after"])

    def test_hexadecimal_digits_begin_anew_with_each_escape(self):
        self.assertEqual(
            names_by_takes(b'"\\u1234\\uABcd5"'),
            "string escape hex hex hex hex string escape hex hex hex hex string string after",
        )


class Refusals(unittest.TestCase):
    WRONG = (-1, 256, -2, 257, 300, 65536 + 48, -256, INT_LOWEST, INT_HIGHEST)

    def test_each_state_refuses_and_goes_on_from_what_was_before(self):
        for ahead, name, named in rows_anywhere():
            k = STATE[name]
            going_on = list(b"".join(named))[:3] + [ord("}"), ord("x")]
            calls = []
            wanted = []
            for c in going_on:
                calls += CLEAR + run(ahead)
                wanted += [0, k]
                for wrong in self.WRONG:
                    calls += take(k, wrong)
                    wanted += [-1]
                calls += take(k, c)
                wanted += [every_byte(named)[c]]
            with self.subTest(ahead=ahead, state=name):
                self.assertEqual(numbers_of(calls), wanted)

    def test_nothing_is_changed(self):
        for data in (b"", b'[{"a":[1', b'["\\u1', b'{"k', b'{"k":"s', b"tr", b"[1.5 ", b"x"):
            for wrong in self.WRONG:
                reader = Reader()
                run_reader(reader, list(data))
                before = {name: repr(kept) for name, kept in vars(reader).items()}
                self.assertEqual(take_with(reader, wrong), -1)
                self.assertEqual({name: repr(kept) for name, kept in vars(reader).items()}, before)

    def test_both_ends_of_a_byte_are_taken(self):
        self.assertEqual(behind_take(b'"', 0), STATE["bad"])
        self.assertEqual(behind_take(b'"', 255), STATE["string"])


class TheBound(unittest.TestCase):
    ARRAYS = b"[" * 1000
    MIXED = b'[{"a":' * 500

    def test_the_thousandth_and_the_one_behind_it_by_take(self):
        for nested in (self.ARRAYS, self.MIXED):
            states = [STATE["first"], STATE["value"]]
            self.assertIn(behind(nested), states)
            for c in b"[{":
                self.assertEqual(behind_take(nested, c), STATE["bad"])
        self.assertEqual(behind_take(b"[" * 999, ord("[")), STATE["first"])
        self.assertEqual(behind_take(b"[" * 999, ord("{")), STATE["member"])
        self.assertEqual(behind_take(self.MIXED[:-5], ord("{")), STATE["member"])

    def test_every_one_by_take(self):
        self.assertEqual(states_by_takes(b"[" * 1001), [STATE["first"]] * 1000 + [STATE["bad"]])
        self.assertEqual(states_by_takes(self.MIXED + b"{")[-2:], [STATE["value"], STATE["bad"]])

    def test_the_thousandth_and_the_one_behind_it_by_run(self):
        self.assertEqual(behind(b"[" * 1000), STATE["first"])
        self.assertEqual(behind(b"[" * 1001), STATE["bad"])
        self.assertEqual(behind(b"[" * 999 + b"{"), STATE["member"])
        self.assertEqual(behind(b"[" * 1000 + b"{"), STATE["bad"])
        self.assertEqual(behind(self.MIXED), STATE["value"])
        self.assertEqual(behind(self.MIXED + b"["), STATE["bad"])
        self.assertEqual(behind(self.MIXED + b"{"), STATE["bad"])

    def test_other_values_still_go_at_the_bound(self):
        self.assertTrue(is_whole(b"[" * 1000 + b"]" * 1000))
        self.assertTrue(is_whole(self.MIXED + b"1" + b"}]" * 500))

    def test_what_is_closed_no_longer_counts_against_it(self):
        self.assertEqual(behind(b"[" * 1000 + b"],["), STATE["first"])
        self.assertEqual(behind(b"[" * 1000 + b"],[["), STATE["bad"])
        self.assertEqual(behind(b"[" * 999 + b"{},{"), STATE["member"])
        self.assertTrue(is_whole(b"[" + b"[]," * 2000 + b"{}]"))


if __name__ == "__main__":
    unittest.main()
