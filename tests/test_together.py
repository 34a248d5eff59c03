"""All the calls together: long lists of them, one behind another, against two other ways to the same answers."""

import json
import random
import re
import unittest

from tests.helper import (
    ASKING, CLEAR, DEPTH, ENDS, INT_HIGHEST, INT_LOWEST, NAMES, SEEN_ALL, STATE, TABLE, TABLE_TOLD,
    behind, counts_behind, depth_behind, ends_behind, numbers_of, of, rows_of, run, seen, states_by_takes, take,
)

TEXTS = (
    b' {"a" : [-0.5e+1 ,true, "x\\u00Ff\\n"], "b":{"c":[[],{}, null,false,10]},"d":-0}\n', b"[[[1],[2]],3]", b"12 ",
    b'[{"k":[{"l":[[0.1],["x"]]}]},-5]', b'"\\"\\\\"', b"[1,2}", b'{"a":tru}', b'{"a" 1', b"[1x", b'{"a":1]', b"01",
    b"[" * 30 + b'{"":0}' + b"]" * 31,
)
TOKEN = re.compile(rb'"(?:[^"\\]|\\.)*"|[][{},:]|-?[0-9][0-9.eE+-]*|true|false|null')


def some_value(source, deepest):
    """A value of JSON, as Python has it, by a source of numbers that begins the same each time."""
    kind = source.randrange(9 if deepest > 0 else 6)
    if kind < 3:
        return (None, False, True)[kind]
    if kind == 3:
        return source.choice((0, 7, -10, 0.5, -2.25, 1e30, 3e-9, 123456789))
    if kind < 6:
        return source.choice(("", "a", "null", "[1,2]", '"', "\\", "\n\t", "\u00e9\u20ac", "{\"a\":1}", "x" * 40))
    length = source.randrange(4)
    if kind == 6:
        return {str(k) * k: some_value(source, deepest - 1) for k in range(length)}
    return [some_value(source, deepest - 1) for k in range(length)]


def some_texts():
    source = random.Random(7)
    for turn in range(60):
        value = some_value(source, 5)
        yield json.dumps(value, indent=source.choice((None, 1)), ensure_ascii=source.choice((True, False))).encode()


def counted_in(value):
    """How many of each kind a value of Python's own json holds, itself among them."""
    told = [0] * 8
    to_do = [value]
    while to_do:
        one = to_do.pop()
        if isinstance(one, list):
            told[5] += 1
            to_do += one
        elif isinstance(one, dict):
            told[6] += 1
            told[7] += len(one)
            to_do += one.values()
        elif isinstance(one, str):
            told[4] += 1
        elif one is None or isinstance(one, bool):
            told[(None, False, True).index(one)] += 1
        else:
            told[3] += 1
    return told


def kind_of(token, next_token):
    if token[:1] == b'"':
        return 7 if next_token == b":" else 4
    kinds = {b"null": 0, b"false": 1, b"true": 2, b"]": 5, b"}": 6}
    return kinds.get(token, None if token in (b"[", b"{", b",", b":") else 3)


def told_along(text):
    """Behind each byte of a whole text: how many are open and how many of each kind have ended, by its tokens."""
    depths = [0] * (len(text) + 1)
    counts = [[0] * 8 for at in range(len(text) + 1)]
    found = list(TOKEN.finditer(text))
    following = [match.group() for match in found[1:]] + [b""]
    for match, next_token in zip(found, following):
        kind = kind_of(match.group(), next_token)
        change = {b"[": 1, b"{": 1, b"]": -1, b"}": -1}.get(match.group(), 0)
        for at in range(match.end(), len(text) + 1):
            depths[at] += change
        if kind is not None:
            for at in range(match.end() + (1 if kind == 3 else 0), len(text) + 1):
                counts[at][kind] += 1
    return depths, counts


class AgainstTokens(unittest.TestCase):
    def test_each_byte_of_whole_texts(self):
        for text in some_texts():
            depths, counts = told_along(text)
            told = numbers_of(CLEAR + [n for c in text[:2000] for n in run([c]) + DEPTH + SEEN_ALL])[1:]
            for at in range(len(text[:2000])):
                if told[10 * at + 1:10 * at + 10] != [depths[at + 1]] + counts[at + 1]:
                    self.fail(f"behind {text[:at + 1]!r}: {told[10 * at:10 * at + 10]}")

    def test_whole_texts_hold_what_json_finds_in_them(self):
        for text in some_texts():
            with self.subTest(text=text[:60]):
                self.assertEqual(counts_behind(text + b" "), counted_in(json.loads(text)))
                self.assertEqual((ends_behind(text), depth_behind(text)), (1, 0))
                self.assertEqual(ends_behind(text + b" "), 1)


class BetweenTwoTakes(unittest.TestCase):
    def test_asking_leaves_every_state_as_it_was(self):
        reached = set()
        for data in TEXTS:
            befores = [0] + states_by_takes(data)
            reached |= set(befores)
            calls = list(CLEAR)
            for k, c in zip(befores, data):
                calls += ASKING + ASKING + take(k, c)
            rows = rows_of(calls + ASKING)
            asked = len(rows_of(CLEAR + ASKING)) - 1
            with self.subTest(data=data):
                self.assertEqual(rows[0::2 * asked + 1], [[k] for k in befores])
                for at in range(len(data)):
                    once = rows[(2 * asked + 1) * at + 1:][:2 * asked]
                    self.assertEqual(once[:asked], once[asked:])
                    self.assertEqual(once[:asked], rows_of(CLEAR + run(data[:at]) + ASKING)[2:])
        self.assertEqual(sorted(reached), list(range(len(NAMES))))

    def test_each_one_alone(self):
        for data in TEXTS:
            befores = [0] + states_by_takes(data)
            wanted = numbers_of(CLEAR + run(data) + ENDS + DEPTH + SEEN_ALL)[1:]
            for asking in (TABLE, ENDS, DEPTH, seen(3), seen(-1), of(5), of(19), run(b"")):
                calls = list(CLEAR)
                for k, c in zip(befores, data):
                    calls += asking + take(k, c)
                rows = rows_of(calls + ENDS + DEPTH + SEEN_ALL)
                with self.subTest(data=data, asking=asking):
                    self.assertEqual(rows[0:-10:2], [[k] for k in befores])
                    self.assertEqual([befores[-1]] + [row[0] for row in rows[-10:]], wanted)


class InAnyOrder(unittest.TestCase):
    SIGNS = b'[]{},:"\\ 01.eE+-tfnrualsx'
    WRONG = (-1, 256, INT_LOWEST, INT_HIGHEST)

    def one_list(self, source):
        """Calls in any order, and what each is to answer: what a new list answers that comes there by one run."""
        calls = list(CLEAR)
        wanted = [[0]]
        text = source.choice(TEXTS)
        so_far = b""
        for turn in range(60):
            coming = text[len(so_far):][:1] or b" "
            if source.random() < 0.05:
                coming = bytes([source.choice(self.SIGNS)])
            chosen = source.randrange(10)
            if chosen < 3:
                calls += take(behind(so_far), coming[0])
                so_far += coming
                wanted.append([behind(so_far)])
            elif chosen == 3:
                more = text[len(so_far):][:source.randrange(9)]
                calls += run(more)
                so_far += more
                wanted.append([behind(so_far)])
            elif chosen == 4 and source.random() < 0.2:
                calls += CLEAR
                so_far = b""
                wanted.append([0])
            elif chosen == 5:
                calls += take(behind(so_far), source.choice(self.WRONG))
                wanted.append([-1])
            elif chosen == 6:
                calls += TABLE
                wanted.append(TABLE_TOLD)
            elif chosen == 7:
                calls += ENDS + DEPTH
                wanted += [[ends_behind(so_far)], [depth_behind(so_far)]]
            elif chosen == 8:
                kind = source.randrange(-1, 9)
                calls += seen(kind)
                wanted.append([counts_behind(so_far)[kind] if 0 <= kind <= 7 else -1])
            else:
                k = source.randrange(-1, 20)
                calls += of(k)
                wanted.append([k if 0 <= k <= 18 else -1])
        return calls, wanted

    def test_lists_of_calls_in_any_order(self):
        source = random.Random(11)
        for turn in range(200):
            calls, wanted = self.one_list(source)
            if rows_of(calls) != wanted:
                self.fail(f"{calls}: {rows_of(calls)}, wanted {wanted}")

    def test_one_list_by_hand(self):
        told = rows_of(
            CLEAR + DEPTH + run(b'{"a":[1') + ENDS + DEPTH + seen(3) + seen(7) + take(STATE["whole"], 256) + seen(3)
            + take(STATE["whole"], ord("]")) + seen(3) + seen(5) + DEPTH + TABLE + of(18) + of(19) + run(b"}") + ENDS
            + seen(6) + seen(8) + CLEAR + seen(6) + ENDS + run(b"x") + DEPTH + ENDS
        )
        self.assertEqual(told, [
            [0], [0], [STATE["whole"]], [0], [2], [0], [1], [-1], [0],
            [STATE["after"]], [1], [1], [1], TABLE_TOLD, [18], [-1], [STATE["after"]], [1],
            [1], [-1], [0], [0], [0], [STATE["bad"]], [0], [0],
        ])


if __name__ == "__main__":
    unittest.main()
