"""What the tests make calls and messages with: the document's words once more, over bytes, none of the package's."""

import struct

from trusthouse.desk import answers

FRESH = bytes(range(100, 116))
MOST = 4294967295
NAME_SIGNS = b"abcdefghijklmnopqrstuvwxyz0123456789.-"
# The bytes just beside a to z, 0 to 9, `.` and `-`; some of these are signs of a name themselves.
BESIDE = b"`{/:,./-"
NO_NAMES = (b"", b"x" * 33, b"x" * 64, b"Ann", b"an n", b"ann\0", b"\0ann", b"an_n", b"a\xe1n", b"\xff" * 64)


def xtea(key, block):
    a, b = struct.unpack(">2I", block)
    words = struct.unpack(">4I", key)
    s = 0
    for _ in range(32):
        a = (a + ((((b << 4 & MOST) ^ (b >> 5)) + b & MOST) ^ (s + words[s & 3] & MOST))) & MOST
        s = (s + 0x9E3779B9) & MOST
        b = (b + ((((a << 4 & MOST) ^ (a >> 5)) + a & MOST) ^ (s + words[s >> 11 & 3] & MOST))) & MOST
    return struct.pack(">2I", a, b)


def masked(key, mask):
    return bytes(byte ^ mask for byte in key)


def xored(left, right):
    return bytes(a ^ b for a, b in zip(left, right))


def total(key, text):
    row = struct.pack(">Q", len(text)) + text
    while len(row) % 8:
        row += b"\0"
    h = bytes(8)
    for at in range(0, len(row), 8):
        h = xtea(masked(key, 0x36), xored(h, row[at:at + 8]))
    return h


def stream(key, first, size):
    row = b""
    while len(row) < size:
        row += xtea(masked(key, 0x5C), struct.pack(">Q", first % (1 << 64)))
        first += 1
    return row[:size]


def seal(key, text):
    head = total(key, text)
    return head + xored(text, stream(key, int.from_bytes(head, "big"), len(text)))


def unseal(key, sealed):
    head, rest = sealed[:8], sealed[8:]
    text = xored(rest, stream(key, int.from_bytes(head, "big"), len(rest)))
    assert total(key, text) == head, "it doesn't open"
    return text


def key_of(number):
    return bytes((number * 37 + place * 11) % 256 for place in range(16))


def eight(number):
    return number.to_bytes(8, "big")


def four(number):
    return number.to_bytes(4, "big")


def counted(row):
    return len(row).to_bytes(2, "big") + row


def named(name):
    return bytes([len(name)]) + name


def ticket(key, client, session, start, end):
    return seal(key, named(client) + session + eight(start) + eight(end))


def proof(session, client, time):
    return seal(session, named(client) + eight(time))


def asked(client, service, nonce, life):
    return b"\1" + named(client) + named(service) + eight(nonce) + four(life)


def more_asked(sealed_ticket, sealed_proof, service, nonce, life):
    return b"\3" + counted(sealed_ticket) + counted(sealed_proof) + named(service) + eight(nonce) + four(life)


def shown(sealed_ticket, sealed_proof):
    return b"\5" + counted(sealed_ticket) + counted(sealed_proof)


def given(kind, service_key, asker_key, client, service, session, nonce, start, end):
    told = session + named(service) + eight(nonce) + eight(start) + eight(end)
    return (bytes([kind]) + counted(ticket(service_key, client, session, start, end))
            + counted(seal(asker_key, told)))


def begin():
    return [0]


def add(name, key, life=MOST):
    return [1, life, len(name), *name, len(key), *key]


def answer(now, message, fresh=FRESH):
    return [2, now, len(message), *message, len(fresh), *fresh]


def show(now, name, message):
    return [3, now, len(name), *name, len(message), *message]


class Untouched(list):
    """A list that fails where it is changed, if only for a while."""

    def fail(self, *args, **kwargs):
        raise AssertionError("what was handed in is changed")

    __setitem__ = __delitem__ = __iadd__ = __imul__ = fail
    append = clear = extend = insert = pop = remove = reverse = sort = fail


def parted(told):
    """The answers' one list as a list for each call."""
    parts = []
    at = 0
    while at < len(told):
        parts.append(told[at + 1:at + 1 + told[at]])
        assert len(parts[-1]) == told[at], "the list ends within an answer"
        at += 1 + told[at]
    return parts


def run(*calls):
    return parted(answers([number for call in calls for number in call]))


def last(*calls):
    return run(*calls)[-1]


def bytes_answer(row):
    """How tk_answer, and each call that stands by itself, answers these bytes."""
    return [len(row), *row]


def refusal(why):
    """How tk_answer answers that it refuses."""
    return [2, 9, why]


def let_in(client, session):
    """How tk_show answers who is let in."""
    return [0, *named(client), *bytes(32 - len(client)), *session]
