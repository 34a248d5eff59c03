"""Promise 8: seen."""

import unittest

from jsonstates.reader import Reader
from jsonstates.reader import run as run_reader
from jsonstates.reader import seen as seen_of

from tests.helper import (
    CLEAR, INT_HIGHEST, INT_LOWEST, NONE_COUNTED, SEEN_ALL, STATE, counts_behind, numbers_of, run, seen, take,
)

KINDS = "null false true numbers strings arrays objects keys".split()
NUMBERS = (b"0", b"-0", b"7", b"-10", b"0.5", b"12.34", b"1e9", b"0E+5", b"-1.5e-3")


def counts(**some):
    return [some.get(kind, 0) for kind in KINDS]


class EachKind(unittest.TestCase):
    def check(self, data, **some):
        with self.subTest(data=data[:40]):
            self.assertEqual(counts_behind(data), counts(**some))

    def test_their_numbers(self):
        for kind, data in enumerate((b"null", b"false", b"true", b"1 ", b'"s"', b"[]", b"{}", b'{"k"')):
            self.assertEqual(numbers_of(CLEAR + run(data) + SEEN_ALL)[2:], [1 if k == kind else 0 for k in range(8)])

    def test_words(self):
        self.check(b"null", null=1)
        self.check(b"[null,null", null=2)
        self.check(b"[false,false,false", false=3)
        self.check(b"[true,null,true,false", true=2, null=1, false=1)

    def test_numbers(self):
        for number in NUMBERS:
            self.check(number + b" ", numbers=1)
            self.check(b"[" + number + b"," + number + b",", numbers=2)
        self.check(b"[" + b"1," * 14000, numbers=14000)

    def test_strings_and_keys_apart(self):
        self.check(b'""', strings=1)
        self.check(b'["a","\\"","\\u0041"', strings=3)
        self.check(b'{"a"', keys=1)
        self.check(b'{"a":"b"', keys=1, strings=1)
        self.check(b'{"a":"b","\\u0063\\"":["d","e"],"a"', keys=3, strings=3, arrays=1)
        self.check(b'{"":{"":{""', keys=3)

    def test_arrays_and_objects(self):
        self.check(b"[[],[[]],{}", arrays=3, objects=1)
        self.check(b"[[],[[]],{}]", arrays=4, objects=1)
        self.check(b'{"a":{},"b":[{}]', objects=2, arrays=1, keys=2)
        self.check(b'{"a":{},"b":[{}]}', objects=3, arrays=1, keys=2)
        self.check(b"[" * 1000 + b"]" * 999, arrays=999)
        self.check(b"[" * 1000 + b"]" * 1000, arrays=1000)

    def test_all_in_one_text(self):
        self.check(b'{"a": [null, true, false, -1.5e3, "s", {}], "b": {"c": [[], 0]}} ',
                   null=1, true=1, false=1, numbers=2, strings=1, arrays=3, objects=3, keys=3)

    def test_what_stands_in_strings_is_not_counted(self):
        self.check(b'"null true 1 [] {} \\"a\\" "', strings=1)
        self.check(b'{"[1,{}]"', keys=1)

    def test_other_kinds_are_refused(self):
        for kind in (-1, 8, -2, 9, -8, 18, 255, 256, INT_LOWEST, INT_HIGHEST):
            self.assertEqual(numbers_of(CLEAR + seen(kind)), [0, -1])
            self.assertEqual(numbers_of(CLEAR + run(b'[1,"a"]') + seen(kind) + SEEN_ALL)[2:],
                             [-1] + counts(numbers=1, strings=1, arrays=1))
            self.assertEqual(numbers_of(CLEAR + run(b"x") + seen(kind))[2:], [-1])


class WhenItIsCounted(unittest.TestCase):
    def along(self, data, kind):
        return numbers_of(CLEAR + [n for c in data for n in run([c]) + seen(kind)])[2::2]

    def test_by_the_byte_that_ends_it(self):
        self.assertEqual(self.along(b"null ", 0), [0, 0, 0, 1, 1])
        self.assertEqual(self.along(b"false ", 1), [0, 0, 0, 0, 1, 1])
        self.assertEqual(self.along(b"true ", 2), [0, 0, 0, 1, 1])
        self.assertEqual(self.along(b"-1.5e2  ", 3), [0, 0, 0, 0, 0, 0, 1, 1])
        self.assertEqual(self.along(b"[1,2,3]", 3), [0, 0, 1, 1, 2, 2, 3])
        self.assertEqual(self.along(b'"\\u0022" ', 4), [0, 0, 0, 0, 0, 0, 0, 1, 1])
        self.assertEqual(self.along(b"[[],[] ]", 5), [0, 0, 1, 1, 1, 2, 2, 3])
        self.assertEqual(self.along(b'{"":{} }', 6), [0, 0, 0, 0, 0, 1, 1, 2])
        self.assertEqual(self.along(b'{"a":1,"b":', 7), [0, 0, 0, 1, 1, 1, 1, 1, 1, 2, 2])

    def test_nothing_before_it_has_ended(self):
        for data in (b"", b" ", b"n", b"nul", b"fals", b"tru", b"-", b"0", b"-10", b"1.", b"1.5", b"1e", b"1e+",
                     b"1e+9", b'"', b'"a', b'"\\', b'"\\u002', b"[", b"[ ", b"{", b'{"', b'{"k\\', b"[[[["):
            with self.subTest(data=data):
                self.assertEqual(counts_behind(data), NONE_COUNTED)

    def test_a_number_by_the_byte_behind_it(self):
        for number in NUMBERS:
            with self.subTest(number=number):
                self.assertEqual(counts_behind(number), NONE_COUNTED)
                for ending in (b" ", b"\t", b"\n", b"\r"):
                    self.assertEqual(counts_behind(number + ending), counts(numbers=1))
                self.assertEqual(counts_behind(b"[" + number), NONE_COUNTED)
                self.assertEqual(counts_behind(b"[" + number + b","), counts(numbers=1))

    def test_a_number_also_where_that_byte_leads_to_bad(self):
        for number in NUMBERS:
            for around, endings in ((b"", b'x,]}:"-+[{\x00\xff'), (b"[", b'x}:"-+[{\x00\xff'), (b'{"":', b'x]:"-+[{')):
                for c in endings:
                    data = around + number + bytes([c])
                    told = numbers_of(CLEAR + run(data) + SEEN_ALL)
                    with self.subTest(data=data):
                        self.assertEqual(told[1], STATE["bad"])
                        self.assertEqual(told[2:], counts(numbers=1, keys=1 if around.startswith(b"{") else 0))
        self.assertEqual(counts_behind(b"01"), counts(numbers=1))
        self.assertEqual(counts_behind(b"1.5."), counts(numbers=1))
        self.assertEqual(counts_behind(b"1e5e"), counts(numbers=1))

    def test_a_number_and_what_is_closed_at_once(self):
        for number in NUMBERS:
            with self.subTest(number=number):
                self.assertEqual(counts_behind(b"[" + number + b"]"), counts(numbers=1, arrays=1))
                self.assertEqual(counts_behind(b"[[" + number + b"]"), counts(numbers=1, arrays=1))
                self.assertEqual(counts_behind(b'{"a":' + number + b"}"), counts(numbers=1, objects=1, keys=1))
                self.assertEqual(counts_behind(b"[" + number + b"}"), counts(numbers=1))
                self.assertEqual(counts_behind(b'{"a":' + number + b"]"), counts(numbers=1, keys=1))

    def test_what_is_left_by_a_byte_that_does_not_belong_to_it(self):
        for data in (b"nulx", b"nul ", b"nul]", b"falsE", b"tru\x00", b"nn", b"ttrue", b'"a\n', b'"a\x1f"', b'"\\x"',
                     b'"\\u00g0"', b'"\\u"', b'{"a\n"', b'{"\\x"', b'{"\\u12"', b"-x", b"-]", b"1.x", b"1. ", b"1ex",
                     b"1e ", b"1e+ ", b"--1 ", b"+1 ", b"[}", b"{]", b"]", b"}", b"[,"):
            with self.subTest(data=data):
                told = numbers_of(CLEAR + run(data) + SEEN_ALL)
                self.assertEqual(told[1:], [STATE["bad"]] + NONE_COUNTED)

    def test_in_bad_the_counts_stay(self):
        told = numbers_of(CLEAR + run(b'[null,"a",[],1x') + SEEN_ALL + run(b' null "a" [] {} 1 ]') + SEEN_ALL)
        kept = counts(null=1, strings=1, arrays=1, numbers=1)
        self.assertEqual(told[1:], [STATE["bad"]] + kept + [STATE["bad"]] + kept)
        self.assertEqual(counts_behind(b"[" * 1001 + b"]" * 5), NONE_COUNTED)


class WhatChangesThem(unittest.TestCase):
    TEXT = b'[null,false,true,1,"s",[],{"k":{}}'

    def test_clear_sets_all_to_0(self):
        told = numbers_of(CLEAR + run(self.TEXT) + SEEN_ALL + CLEAR + SEEN_ALL + run(b"[1]") + SEEN_ALL)
        self.assertEqual(told[2:10], [1, 1, 1, 1, 1, 1, 2, 1])
        self.assertEqual(told[10:19], [0] + NONE_COUNTED)
        self.assertEqual(told[20:], counts(numbers=1, arrays=1))

    def test_clear_drops_a_number_under_way(self):
        self.assertEqual(numbers_of(CLEAR + run(b"[12") + CLEAR + SEEN_ALL)[3:], NONE_COUNTED)
        self.assertEqual(numbers_of(CLEAR + run(b"12") + CLEAR + run(b" ") + SEEN_ALL)[4:], NONE_COUNTED)

    def test_a_refused_take_changes_none(self):
        for data in (b"", b"12", b"[1", b"nul", b'"a', b'{"a', b"[", b"[[]", b"x"):
            before = numbers_of(CLEAR + run(data) + SEEN_ALL)[1:]
            for c in (-1, 256, 256 + 32, 256 + 34, 256 + 93, INT_LOWEST, INT_HIGHEST):
                with self.subTest(data=data, c=c):
                    self.assertEqual(numbers_of(CLEAR + run(data) + take(before[0], c) + SEEN_ALL)[2:],
                                     [-1] + before[1:])

    def test_asking_changes_none(self):
        told = numbers_of(CLEAR + run(b"[1") + SEEN_ALL + SEEN_ALL + run(b"2]") + SEEN_ALL + SEEN_ALL)
        self.assertEqual(told[2:18], NONE_COUNTED * 2)
        self.assertEqual(told[19:], counts(numbers=1, arrays=1) * 2)

    def test_a_run_of_none_changes_none(self):
        self.assertEqual(numbers_of(CLEAR + run(b"[1") + run(b"") + SEEN_ALL)[3:], NONE_COUNTED)

    def test_they_are_told_modulo_4294967296(self):
        # As many as that can't be asked through a list of calls, so the object's counts begin just below.
        for kind, one in enumerate((b"null,", b"false,", b"true,", b"1,", b'"a",', b"[],", b"{},", b'{"a":')):
            reader = Reader()
            reader.counts[kind] = 4294967294
            told = []
            for data in (b"[", one, one, one):
                run_reader(reader, list(data))
                told.append(seen_of(reader, kind))
            self.assertEqual(told, [4294967294, 4294967295, 0, 1], one)


if __name__ == "__main__":
    unittest.main()
