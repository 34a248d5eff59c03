"""Promise 3: run."""

import itertools
import json
import unittest

from jsonstates.reader import Reader
from jsonstates.reader import run as run_reader

from tests.helper import (
    CLEAR, INT_HIGHEST, INT_LOWEST, STATE, behind, ends_behind, is_whole, numbers_of, run, states_by_takes, take,
)

TEXTS = (
    b"", b" ", b"0", b"-12.50e-7 ", b'"a\\u00e9\\n\xc3\xa9"', b"true", b" false ", b"null", b"[]", b"{}",
    b'{"a": [1, -0, 2.5E+3, true, false, null], "b": {"c": "d\\"", "": []}}', b"[1,]", b"tru,", b'{"a" 1', b"01",
    b'[{"k":[{"l":[[0.1],["x"]]}]},-5]', b"[" * 1000, b"[" * 1001 + b"]",
)


def refuse_constant(name):
    raise ValueError(name)


def is_json(data):
    try:
        json.loads(data.decode("ascii"), parse_constant=refuse_constant)
    except ValueError:
        return False
    return True


class Run(unittest.TestCase):
    def test_no_byte_leaves_the_state_as_it_is(self):
        for data in TEXTS + (b"[", b"{", b'"', b'"\\', b'"\\u1', b"-", b"1.", b"1e", b"1e+", b"t", b'{"a"', b'{"a":1,'):
            with self.subTest(data=data[:30]):
                told = numbers_of(CLEAR + run(data) + run(b"") + run(b""))
                self.assertEqual(told[2:], [told[1]] * 2)
        self.assertEqual(numbers_of(CLEAR + run(b"")), [0, 0])

    def test_no_byte_does_not_end_a_number(self):
        self.assertEqual(numbers_of(CLEAR + run(b"1") + run(b"") + run(b"2")), [0] + [STATE["whole"]] * 3)

    def test_one_byte(self):
        cases = ((b"{", "member"), (b"[", "first"), (b'"', "string"), (b"-", "minus"), (b"0", "zero"), (b"5", "whole"),
                 (b"t", "word"), (b" ", "value"), (b"}", "bad"), (b"\x00", "bad"), (b"\xff", "bad"), (b":", "bad"))
        for data, name in cases:
            with self.subTest(data=data):
                self.assertEqual(numbers_of(CLEAR + run(data)), [0, STATE[name]])

    def test_many_bytes_answer_the_last_state_alone(self):
        self.assertEqual(numbers_of(CLEAR + run(b'{"a":[1,2')), [0, STATE["whole"]])
        self.assertEqual(numbers_of(CLEAR + run(b'{"a":[1,2]}\n')), [0, STATE["after"]])
        self.assertEqual(behind(b'"' + b"a" * 28999), STATE["string"])
        self.assertEqual(behind(b"[" + b"0," * 14499 + b"]"), STATE["bad"])
        self.assertEqual(behind(b"[" + b"0," * 14498 + b"0]"), STATE["after"])

    def test_one_run_and_two_and_takes_come_to_the_same(self):
        for data in TEXTS:
            for cut in range(0, len(data) + 1, max(1, len(data) // 50)):
                with self.subTest(data=data[:30], cut=cut):
                    self.assertEqual(numbers_of(CLEAR + run(data[:cut]) + run(data[cut:]))[-1], behind(data))

    def test_each_state_on_the_way_is_the_one_that_take_answers(self):
        for data in TEXTS:
            with self.subTest(data=data[:30]):
                taken = states_by_takes(data)
                some = list(range(0, len(data), max(1, len(data) // 60)))
                self.assertEqual([behind(data[:k + 1]) for k in some], [taken[k] for k in some])

    def test_run_and_take_one_behind_another(self):
        for data in TEXTS:
            befores = [0] + states_by_takes(data)
            for first in (0, 1):
                calls = list(CLEAR)
                for at, c in enumerate(data):
                    calls += run([c]) if at % 2 == first else take(befores[at], c)
                with self.subTest(data=data[:30], first=first):
                    self.assertEqual(numbers_of(calls), befores)

    def test_a_refused_take_between_runs_changes_nothing(self):
        told = numbers_of(CLEAR + run(b'["\\u12') + take(STATE["hex"], INT_LOWEST) + take(STATE["hex"], INT_HIGHEST)
                          + run(b'34"') + take(STATE["after"], 256) + run(b"]"))
        self.assertEqual(told, [0, STATE["hex"], -1, -1, STATE["after"], -1, STATE["after"]])

    def test_bad_stays_bad_until_clear(self):
        bad = STATE["bad"]
        for data in (b"x", b"[}", b"1x", b"[" * 1001, b'"\x1f', b'"\\u00g', b"truE"):
            told = numbers_of(CLEAR + run(data) + run(bytes(range(256))) + run(b"") + run(b'[]{}"" 1')
                              + take(bad, 32) + take(bad, 256) + take(bad, 93) + CLEAR + run(b"[") + run(b"1]"))
            with self.subTest(data=data[:10]):
                self.assertEqual(told, [0] + [bad] * 5 + [-1, bad, 0, STATE["first"], STATE["after"]])

    def test_above_65536_bytes_is_refused_and_changes_nothing(self):
        reader = Reader()
        self.assertEqual(run_reader(reader, list(b'[1,"')), STATE["string"])
        self.assertEqual(run_reader(reader, [97] * 65537), -1)
        self.assertEqual(run_reader(reader, [34] * 65537), -1)
        self.assertEqual((reader.state, reader.nested, reader.counts), (STATE["string"], [5], [0, 0, 0, 1, 0, 0, 0, 0]))
        self.assertEqual(run_reader(reader, [97] * 65536), STATE["string"])
        self.assertEqual(run_reader(reader, list(b'"]')), STATE["after"])


class AgainstJson(unittest.TestCase):
    """Whole texts are just those that Python's own json takes."""

    def check_all(self, signs, longest):
        for length in range(longest + 1):
            for chosen in itertools.product(signs, repeat=length):
                data = b"".join(chosen)
                wanted = is_json(data)
                if is_whole(data) != wanted or ends_behind(data) != (1 if wanted else 0):
                    self.fail(f"{data!r}: json says {wanted}")

    def test_numbers(self):
        self.check_all((b"-", b"+", b"0", b"7", b".", b"e", b"E", b" "), 5)

    def test_arrays_and_objects(self):
        self.check_all((b"[", b"]", b"{", b"}", b",", b":", b'"', b"1", b" "), 5)

    def test_deeper_arrays_and_objects(self):
        self.check_all((b"[", b"]", b'{"":', b"}", b",", b',"":', b"1"), 6)

    def test_strings(self):
        self.check_all((b'"', b"\\", b"u", b"0", b"a", b"\n", b"\x7f"), 5)
        self.check_all((b'"', b"\\u", b"0A", b"fF", b"g", b"\\n"), 5)

    def test_words(self):
        self.check_all((b"t", b"r", b"u", b"e"), 6)
        self.check_all((b"tru", b"fals", b"e", b"nul", b"l", b" ", b"[", b"]"), 4)


if __name__ == "__main__":
    unittest.main()
