"""JSON taken byte by byte: each state takes one byte and answers the state that takes the next one."""

VALUE = 0
FIRST = 1
MEMBER = 2
KEY = 3
COLON = 4
AFTER = 5
STRING = 6
ESCAPE = 7
HEX = 8
MINUS = 9
ZERO = 10
WHOLE = 11
POINT = 12
FRACTION = 13
E = 14
SIGN = 15
EXPONENT = 16
WORD = 17
BAD = 18

KIND_NULL = 0
KIND_FALSE = 1
KIND_TRUE = 2
KIND_NUMBER = 3
KIND_STRING = 4
KIND_ARRAY = 5
KIND_OBJECT = 6
KIND_KEY = 7
KINDS = 8

CALL_CLEAR = 1
CALL_TAKE = 2
CALL_RUN = 3
CALL_OF = 4
CALL_TABLE = 5
CALL_ENDS = 6
CALL_DEPTH = 7
CALL_SEEN = 8

REFUSED = -1
MOST_NESTED = 1000
MOST_BYTES = 65536
HIGHEST_BYTE = 255
HEX_DIGITS = 4
COUNTS_TOLD = 4294967296

SPACES = (32, 9, 10, 13)


# One text so far. The state alone is not enough: a closing byte needs what is around it, a quote whether
# it ends a key, a digit how many were there, a letter its word.
class Reader:
    def __init__(self):
        self.begin()

    def begin(self):
        self.state = VALUE
        self.nested = []
        self.counts = [0] * KINDS
        self.in_key = False
        self.digits_left = 0
        self.word_rest = ""
        self.word_kind = KIND_NULL


def is_one_of(c, signs):
    return c in [ord(sign) for sign in signs]


def is_digit(c):
    return ord("0") <= c <= ord("9")


def is_hex_digit(c):
    return is_digit(c) or ord("a") <= c <= ord("f") or ord("A") <= c <= ord("F")


def end_value(reader, kind):
    reader.counts[kind] += 1
    return AFTER


def go_into(reader, kind, inside):
    if len(reader.nested) == MOST_NESTED:
        return BAD
    reader.nested.append(kind)
    return inside


def close_innermost(reader):
    return end_value(reader, reader.nested.pop())


def begin_string(reader, in_key):
    reader.in_key = in_key
    return STRING


def begin_word(reader, rest, kind):
    reader.word_rest = rest
    reader.word_kind = kind
    return WORD


def begin_digits(c):
    if c == ord("0"):
        return ZERO
    if is_digit(c):
        return WHOLE
    return BAD


def take_value(reader, c):
    if c in SPACES:
        return VALUE
    if c == ord("{"):
        return go_into(reader, KIND_OBJECT, MEMBER)
    if c == ord("["):
        return go_into(reader, KIND_ARRAY, FIRST)
    if c == ord("\""):
        return begin_string(reader, False)
    if c == ord("t"):
        return begin_word(reader, "rue", KIND_TRUE)
    if c == ord("f"):
        return begin_word(reader, "alse", KIND_FALSE)
    if c == ord("n"):
        return begin_word(reader, "ull", KIND_NULL)
    if c == ord("-"):
        return MINUS
    return begin_digits(c)


def take_first(reader, c):
    if c in SPACES:
        return FIRST
    if c == ord("]"):
        return close_innermost(reader)
    return take_value(reader, c)


def take_member(reader, c):
    if c in SPACES:
        return MEMBER
    if c == ord("}"):
        return close_innermost(reader)
    return take_key(reader, c)


def take_key(reader, c):
    if c in SPACES:
        return KEY
    if c == ord("\""):
        return begin_string(reader, True)
    return BAD


def take_colon(reader, c):
    if c in SPACES:
        return COLON
    if c == ord(":"):
        return VALUE
    return BAD


def take_after(reader, c):
    if c in SPACES:
        return AFTER
    if len(reader.nested) == 0:
        return BAD
    if reader.nested[-1] == KIND_ARRAY:
        return take_after_item(reader, c)
    return take_after_member(reader, c)


def take_after_item(reader, c):
    if c == ord(","):
        return VALUE
    if c == ord("]"):
        return close_innermost(reader)
    return BAD


def take_after_member(reader, c):
    if c == ord(","):
        return KEY
    if c == ord("}"):
        return close_innermost(reader)
    return BAD


def take_string(reader, c):
    if c == ord("\""):
        return end_string(reader)
    if c == ord("\\"):
        return ESCAPE
    if c >= ord(" "):
        return STRING
    return BAD


def end_string(reader):
    if reader.in_key:
        reader.counts[KIND_KEY] += 1
        return COLON
    return end_value(reader, KIND_STRING)


def take_escape(reader, c):
    if is_one_of(c, "\"\\/bfnrt"):
        return STRING
    if c == ord("u"):
        reader.digits_left = HEX_DIGITS
        return HEX
    return BAD


def take_hex(reader, c):
    if not is_hex_digit(c):
        return BAD
    reader.digits_left -= 1
    return HEX if reader.digits_left > 0 else STRING


def take_minus(reader, c):
    return begin_digits(c)


def take_zero(reader, c):
    if c == ord("."):
        return POINT
    return take_mark_or_end(reader, c)


def take_whole(reader, c):
    if is_digit(c):
        return WHOLE
    return take_zero(reader, c)


def take_point(reader, c):
    return FRACTION if is_digit(c) else BAD


def take_fraction(reader, c):
    if is_digit(c):
        return FRACTION
    return take_mark_or_end(reader, c)


def take_mark_or_end(reader, c):
    if is_one_of(c, "eE"):
        return E
    return end_number(reader, c)


def take_e(reader, c):
    if is_one_of(c, "+-"):
        return SIGN
    return take_sign(reader, c)


def take_sign(reader, c):
    return EXPONENT if is_digit(c) else BAD


def take_exponent(reader, c):
    if is_digit(c):
        return EXPONENT
    return end_number(reader, c)


def end_number(reader, c):
    # Only the byte behind a number shows that it has ended, so that byte is still to be taken.
    end_value(reader, KIND_NUMBER)
    return take_after(reader, c)


def take_word(reader, c):
    if c != ord(reader.word_rest[0]):
        return BAD
    reader.word_rest = reader.word_rest[1:]
    if reader.word_rest == "":
        return end_value(reader, reader.word_kind)
    return WORD


def take_bad(reader, c):
    return BAD


# In the order of the states' numbers, so that a state finds its own by its number.
STEPS = (
    take_value, take_first, take_member, take_key, take_colon, take_after,
    take_string, take_escape, take_hex,
    take_minus, take_zero, take_whole, take_point, take_fraction, take_e, take_sign, take_exponent,
    take_word, take_bad,
)


def step(reader, c):
    take_byte = STEPS[reader.state]
    reader.state = take_byte(reader, c)


def clear(reader):
    reader.begin()
    return reader.state


def take(reader, c):
    if c < 0 or c > HIGHEST_BYTE:
        return REFUSED
    step(reader, c)
    return reader.state


def run(reader, data):
    if len(data) > MOST_BYTES:
        return REFUSED
    for c in data:
        step(reader, c)
    return reader.state


def state_of(k):
    return k if VALUE <= k <= BAD else REFUSED


def table():
    return [0] + list(range(VALUE, BAD + 1))


def ends(reader):
    if len(reader.nested) > 0:
        return 0
    return 1 if reader.state in (AFTER, ZERO, WHOLE, FRACTION, EXPONENT) else 0


def depth(reader):
    return len(reader.nested)


def seen(reader, kind):
    if kind < 0 or kind >= KINDS:
        return REFUSED
    return reader.counts[kind] % COUNTS_TOLD


def call_length(calls, at):
    if calls[at] == CALL_TAKE:
        return 3
    if calls[at] == CALL_RUN:
        return 2 + calls[at + 1]
    if calls[at] in (CALL_OF, CALL_SEEN):
        return 2
    return 1


def answer(reader, call):
    if call[0] == CALL_CLEAR:
        return [clear(reader)]
    if call[0] == CALL_TAKE:
        # k, call[1], is left aside: it is always the state that the reader keeps itself.
        return [take(reader, call[2])]
    if call[0] == CALL_RUN:
        return [run(reader, call[2:])]
    if call[0] == CALL_OF:
        return [state_of(call[1])]
    if call[0] == CALL_TABLE:
        return table()
    if call[0] == CALL_ENDS:
        return [ends(reader)]
    if call[0] == CALL_DEPTH:
        return [depth(reader)]
    return [seen(reader, call[1])]


def answers(calls):
    reader = Reader()
    told = []
    at = 0
    while at < len(calls):
        length = call_length(calls, at)
        numbers = answer(reader, calls[at:at + length])
        told.append(len(numbers))
        told.extend(numbers)
        at += length
    return told
