"""Sealing: a text is hidden, and known again, with a key of 16 bytes."""

from trusthouse.octets import number_of, octets_of

HALF = 0xFFFFFFFF
BLOCK = 0xFFFFFFFFFFFFFFFF
STEP = 0x9E3779B9
TURNS = 32
TOTAL_MASK = 0x36
STREAM_MASK = 0x5C


def key_words(key, mask):
    """The four words of the key, each of its bytes xor the mask."""
    masked = [octet ^ mask for octet in key]
    return [number_of(masked[at:at + 4]) for at in range(0, 16, 4)]


def encipher(words, block):
    """The document's E, of a key in four words and a block of 64 bits."""
    a = block >> 32
    b = block & HALF
    s = 0
    for turn in range(TURNS):
        # Only the low 32 bits reach the low 32 bits, so one cut at the end of a row is enough.
        a = (a + ((((b << 4) ^ (b >> 5)) + b) ^ (s + words[s % 4]))) & HALF
        s = (s + STEP) & HALF
        b = (b + ((((a << 4) ^ (a >> 5)) + a) ^ (s + words[(s >> 11) % 4]))) & HALF
    return (a << 32) | b


def total_of(key, text):
    """The document's sum of a text, as a number."""
    words = key_words(key, TOTAL_MASK)
    row = octets_of(len(text), 8) + text + [0] * (-len(text) % 8)
    total = 0
    for at in range(0, len(row), 8):
        total = encipher(words, total ^ number_of(row[at:at + 8]))
    return total


def streamed(key, total, text):
    """The text, each byte xor the stream's; done twice it is the text again."""
    words = key_words(key, STREAM_MASK)
    row = []
    for at in range(0, len(text), 8):
        stream = octets_of(encipher(words, (total + at // 8) & BLOCK), 8)
        for octet, mask in zip(text[at:at + 8], stream):
            row.append(octet ^ mask)
    return row


def seal(key, text):
    total = total_of(key, text)
    return octets_of(total, 8) + streamed(key, total, text)


def unseal(key, sealed):
    """The text, or None where it doesn't open."""
    if len(sealed) < 8:
        return None
    total = number_of(sealed[:8])
    text = streamed(key, total, sealed[8:])
    if total_of(key, text) != total:
        return None
    return text
