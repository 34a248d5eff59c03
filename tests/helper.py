"""What the tests share: the states by name, and calls put together and asked."""

from jsonstates.reader import answers

NAMES = (
    "value first member key colon after string escape hex minus zero whole point "
    "fraction e sign exponent word bad"
).split()
STATE = {name: number for number, name in enumerate(NAMES)}

SPACES = b" \t\n\r"
DIGITS = b"0123456789"
HEX_DIGITS = b"0123456789abcdefABCDEF"
INT_LOWEST = -2147483648
INT_HIGHEST = 2147483647

CLEAR = [1]
TABLE = [5]
ENDS = [6]
DEPTH = [7]
TABLE_TOLD = [0] + list(range(19))
NONE_COUNTED = [0] * 8


def take(k, c):
    return [2, k, c]


def run(data):
    return [3, len(data)] + list(data)


def of(k):
    return [4, k]


def seen(kind):
    return [8, kind]


SEEN_ALL = [number for kind in range(8) for number in seen(kind)]
ASKING = TABLE + ENDS + DEPTH + SEEN_ALL + of(7) + of(-1) + seen(-1)


def rows_of(calls):
    """What each call answers, a list each; the count ahead of each must be just that of its numbers."""
    told = answers(calls)
    rows = []
    at = 0
    while at < len(told):
        rows.append(told[at + 1:at + 1 + told[at]])
        if len(rows[-1]) != told[at] or told[at] == 0:
            raise AssertionError(f"counts are off: {told}")
        at += 1 + told[at]
    return rows


def numbers_of(calls):
    """The one number that each call answers; each must come with its count, 1, ahead of it."""
    told = answers(calls)
    if told[0::2] != [1] * (len(told) // 2) or len(told) % 2 != 0:
        raise AssertionError(f"counts are off: {told}")
    return told[1::2]


def behind(data):
    """The state behind data, by one run."""
    return numbers_of(CLEAR + run(data))[-1]


def behind_take(data, c):
    """The state behind data and then c, which is handed to take."""
    k = behind(data)
    return numbers_of(CLEAR + run(data) + take(k, c))[-1]


def states_by_takes(data):
    """The states behind each byte of data, every byte handed to take."""
    befores = numbers_of(CLEAR + [number for c in data for number in run([c])])
    calls = list(CLEAR)
    for k, c in zip(befores, data):
        calls += take(k, c)
    return numbers_of(calls)[1:]


def names_by_takes(data):
    return " ".join(NAMES[state] for state in states_by_takes(data))


def ends_behind(data):
    return numbers_of(CLEAR + run(data) + ENDS)[-1]


def depth_behind(data):
    return numbers_of(CLEAR + run(data) + DEPTH)[-1]


def counts_behind(data):
    """How many of each kind, 0 to 7, have ended behind data."""
    return numbers_of(CLEAR + run(data) + SEEN_ALL)[2:]


def is_whole(data):
    """Whether data is a whole text, by states alone: a blank leads to after, where a comma shows that none is open."""
    return numbers_of(CLEAR + run(data) + run(b" ") + run(b","))[2:] == [STATE["after"], STATE["bad"]]
