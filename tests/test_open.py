"""Promise 6."""

import unittest

from trusthouse.papers import tk_ask, tk_open
from witness import (FRESH, NAME_SIGNS, NO_NAMES, Untouched, add, answer, asked, begin, bytes_answer, counted, eight,
                     given, key_of, last, let_in, more_asked, named, proof, run, seal, show, shown, ticket)

ANN, MAIL, NEWS, HOUSE = b"ann", b"mail", b"news", b"keys"
ANN_KEY, MAIL_KEY, HOUSE_KEY, SESSION, NEW = key_of(1), key_of(2), key_of(3), key_of(7), key_of(8)
TICKET = ticket(MAIL_KEY, ANN, NEW, 1000, 1600)
KNOWN = [begin(), add(ANN, ANN_KEY), add(MAIL, MAIL_KEY), add(HOUSE, HOUSE_KEY)]
GREATEST = 2 ** 64 - 1


def text_of(service=MAIL, nonce=77, start=1000, end=1600, key=NEW):
    return key + named(service) + eight(nonce) + eight(start) + eight(end)


def message_of(text=text_of(), kind=2, sealed_ticket=TICKET, key=ANN_KEY):
    return bytes([kind]) + counted(sealed_ticket) + counted(seal(key, text))


def told_for(message, nonce=77, key=ANN_KEY, service=MAIL):
    return tk_open(nonce, list(key), list(message), list(service))


def opened(sealed_ticket=TICKET, start=1000, end=1600, key=NEW):
    return bytes_answer(key + eight(start) + eight(end) + sealed_ticket)


def with_byte_changed(row, at, mask):
    return row[:at] + bytes([row[at] ^ mask]) + row[at + 1:]


class Opened(unittest.TestCase):
    def test_the_list_to_the_letter(self):
        key, start, end = list(range(50, 66)), [1, 2, 3, 4, 5, 6, 7, 8], [9, 10, 11, 12, 13, 14, 15, 16]
        text = bytes(key + [4, 109, 97, 105, 108] + [0] * 7 + [77] + start + end)
        told = told_for(message_of(text, sealed_ticket=bytes([200, 201, 202, 203, 204, 205, 206, 207, 208])))
        self.assertEqual(told, [41] + key + start + end + [200, 201, 202, 203, 204, 205, 206, 207, 208])

    def test_it_is_a_list_of_ints(self):
        for told in (told_for(message_of()), told_for(b""), told_for(message_of(), service=b"")):
            self.assertIs(type(told), list)
            self.assertEqual({type(number) for number in told}, {int})

    def test_given_by_the_house(self):
        message = last(*KNOWN, answer(1000, asked(ANN, MAIL, 77, 600)))[1:]
        self.assertEqual(message[0], 2)
        due = ticket(MAIL_KEY, ANN, FRESH, 1000, 1600)
        self.assertEqual(told_for(message), opened(due, key=FRESH))

    def test_more_given_by_the_house(self):
        old = ticket(HOUSE_KEY, ANN, SESSION, 500, 1500)
        more = more_asked(old, proof(SESSION, ANN, 1000), MAIL, 77, 600)
        message = last(*KNOWN, answer(1000, more))[1:]
        self.assertEqual(message[0], 4)
        due = ticket(MAIL_KEY, ANN, FRESH, 1000, 1500)
        self.assertEqual(told_for(message, key=SESSION), opened(due, end=1500, key=FRESH))
        self.assertEqual(told_for(message, key=ANN_KEY), [-1])

    def test_both_kinds_as_the_document_says_them(self):
        for kind in (2, 4):
            message = given(kind, MAIL_KEY, ANN_KEY, ANN, MAIL, NEW, 77, 1000, 1600)
            self.assertEqual(told_for(message), opened())

    def test_from_what_is_asked_to_what_is_shown(self):
        ask = tk_ask(77, 600, list(ANN), list(MAIL))[1:]
        told = told_for(last(*KNOWN, answer(1000, ask))[1:])
        key, sealed_ticket = bytes(told[1:17]), bytes(told[33:])
        tell = show(1100, MAIL, shown(sealed_ticket, proof(key, ANN, 1100)))
        self.assertEqual(run(*KNOWN, tell)[-1], let_in(ANN, key))

    def test_each_nonce(self):
        for nonce in (0, 1, 255, 256, 2 ** 32, 2 ** 63, 18446744073709551614, 18446744073709551615):
            for kind in (2, 4):
                self.assertEqual(told_for(message_of(text_of(nonce=nonce), kind), nonce), opened())

    def test_start_and_end_as_they_are(self):
        for start, end in ((0, 0), (0, GREATEST), (GREATEST, 0), (GREATEST, GREATEST), (1600, 1000), (0, 1), (256, 1)):
            message = message_of(text_of(start=start, end=end))
            self.assertEqual(told_for(message), opened(start=start, end=end))

    def test_keys_as_they_are(self):
        for key in (bytes(16), bytes([255] * 16), ANN_KEY):
            self.assertEqual(told_for(message_of(text_of(key=key))), opened(key=key))
            self.assertEqual(told_for(message_of(key=key), key=key), opened())

    def test_names_of_1_to_32_bytes(self):
        for size in range(1, 33):
            name = b"x" * size
            self.assertEqual(told_for(message_of(text_of(name)), service=name), opened())

    def test_the_signs_of_a_name(self):
        for sign in range(256):
            due = opened() if sign in NAME_SIGNS else [-2]
            for name in (bytes([sign]), bytes([97, sign]), bytes([sign, 97]), b"x" * 31 + bytes([sign])):
                self.assertEqual(told_for(message_of(text_of(name)), service=name), due)

    def test_the_ticket_is_given_back_as_it_is(self):
        # The asker can't open it, so nothing in it is looked at.
        for at in range(len(TICKET)):
            other = with_byte_changed(TICKET, at, 1)
            self.assertEqual(told_for(message_of(sealed_ticket=other)), opened(other))
        for size in (0, 1, 7, 8, 200, 201, 255, 256, 257, 400):
            other = bytes((at * 7 + 1) % 256 for at in range(size))
            self.assertEqual(told_for(message_of(sealed_ticket=other)), opened(other))


class TooLong(unittest.TestCase):
    def test_n_at_512_and_above(self):
        for service in (b"m", MAIL, b"x" * 32):
            for kind in (2, 4):
                for size, good in ((511, True), (512, True), (513, False), (600, False)):
                    sealed_ticket = bytes(size - 54 - len(service))
                    message = message_of(text_of(service), kind, sealed_ticket)
                    self.assertEqual(len(message), size)
                    self.assertEqual(told_for(message, service=service), opened(sealed_ticket) if good else [-2])

    def test_n_at_512_and_above_of_no_message(self):
        self.assertEqual(told_for(bytes(512)), [-1])
        self.assertEqual(told_for(bytes(513)), [-2])
        self.assertEqual(told_for(bytes(513), service=b""), [-2])


class NoName(unittest.TestCase):
    def test_whatever_the_message(self):
        for name in NO_NAMES:
            for message in (message_of(text_of(name)), message_of(), b"", b"\x09\1", message_of() + b"x", bytes(512)):
                self.assertEqual(told_for(message, service=name), [-2])
            self.assertEqual(told_for(message_of(), nonce=78, service=name), [-2])
            self.assertEqual(told_for(message_of(), key=MAIL_KEY, service=name), [-2])


class NotGiven(unittest.TestCase):
    def test_no_bytes_at_all(self):
        self.assertEqual(told_for(b""), [-1])

    def test_each_other_message_of_the_table(self):
        told = seal(ANN_KEY, text_of())
        for message in (asked(ANN, MAIL, 77, 600), more_asked(TICKET, told, MAIL, 77, 600), shown(TICKET, told),
                        shown(TICKET, proof(ANN_KEY, ANN, 1000)), *[bytes([9, why]) for why in range(11)]):
            self.assertEqual(told_for(message), [-1])

    def test_every_other_first_byte(self):
        for kind in range(256):
            self.assertEqual(told_for(message_of(kind=kind)), opened() if kind in (2, 4) else [-1])

    def test_a_byte_before(self):
        for kind in (2, 4):
            for extra in (b"\0", b"\2", b"\4"):
                self.assertEqual(told_for(extra + message_of(kind=kind)), [-1])

    def test_bytes_behind(self):
        for kind in (2, 4):
            for extra in (b"\0", b"\2", b"xx", message_of()):
                self.assertEqual(told_for(message_of(kind=kind) + extra), [-1])

    def test_a_byte_between(self):
        for kind in (2, 4):
            message = message_of(kind=kind)
            for at in range(1, len(message)):
                for extra in (b"\0", b"\1", message[at:at + 1]):
                    self.assertEqual(told_for(message[:at] + extra + message[at:]), [-1])

    def test_bytes_missing(self):
        for kind in (2, 4):
            message = message_of(kind=kind)
            for size in range(len(message)):
                self.assertEqual(told_for(message[:size]), [-1])
            for at in range(len(message)):
                self.assertEqual(told_for(message[:at] + message[at + 1:]), [-1])

    def test_counts_that_do_not_fit(self):
        told = seal(ANN_KEY, text_of())
        for change in (-256, -9, -1, 1, 9, 256, 512, 65000):
            for ticket_change, told_change in ((change, 0), (0, change), (change, -change)):
                sizes = (len(TICKET) + ticket_change) % 65536, (len(told) + told_change) % 65536
                message = b"\2" + sizes[0].to_bytes(2, "big") + TICKET + sizes[1].to_bytes(2, "big") + told
                self.assertEqual(told_for(message), [-1])

    def test_only_one_of_the_two(self):
        told = counted(seal(ANN_KEY, text_of()))
        for message in (b"\2", b"\2" + told, b"\2" + counted(TICKET), b"\2" + told + counted(b""), b"\4\0\0\0\0"):
            self.assertEqual(told_for(message), [-1])

    def test_the_two_turned_round(self):
        message = b"\2" + counted(seal(ANN_KEY, text_of())) + counted(TICKET)
        self.assertEqual(told_for(message), [-1])


class NotOpened(unittest.TestCase):
    def test_another_key(self):
        for kind in (2, 4):
            for at in range(16):
                self.assertEqual(told_for(message_of(kind=kind), key=with_byte_changed(ANN_KEY, at, 1)), [-1])
        for key in (MAIL_KEY, NEW, bytes(16)):
            self.assertEqual(told_for(message_of(), key=key), [-1])

    def test_one_byte_of_what_is_sealed_changed(self):
        message = message_of()
        first = 3 + len(TICKET) + 2
        for at in range(first, len(message)):
            for mask in (1, 128, 255):
                self.assertEqual(told_for(with_byte_changed(message, at, mask)), [-1])

    def test_what_is_sealed_too_short_or_too_long(self):
        told = seal(ANN_KEY, text_of())
        for other in (b"", told[:7], told[:8], told[:-1], told[1:], told + b"\0", b"\0" + told, text_of(), bytes(61)):
            self.assertEqual(told_for(b"\2" + counted(TICKET) + counted(other)), [-1])


class NotSo(unittest.TestCase):
    def test_bytes_missing_within(self):
        text = text_of()
        for size in range(len(text)):
            self.assertEqual(told_for(message_of(text[:size])), [-1])
        for at in range(len(text)):
            self.assertEqual(told_for(message_of(text[:at] + text[at + 1:])), [-1])

    def test_bytes_before_behind_or_between_within(self):
        text = text_of()
        for extra in (b"\0", b"\4", bytes(8), text):
            self.assertEqual(told_for(message_of(text + extra)), [-1])
        for at in range(len(text)):
            self.assertEqual(told_for(message_of(text[:at] + b"\0" + text[at:])), [-1])

    def test_a_service_within_that_is_no_name(self):
        for name in NO_NAMES:
            for asked_for in (MAIL, b"x" * 32):
                self.assertEqual(told_for(message_of(text_of(name)), service=asked_for), [-1])
        for size in (0, 1, 3, 5, 32, 255):
            text = NEW + bytes([size]) + text_of()[17:]
            self.assertEqual(told_for(message_of(text)), [-1])

    def test_other_things_that_are_sealed(self):
        for text in (b"", named(ANN) + NEW + eight(1000) + eight(1600), named(ANN) + eight(1000), message_of()):
            self.assertEqual(told_for(message_of(text)), [-1])

    def test_in_another_order(self):
        text = named(MAIL) + NEW + eight(77) + eight(1000) + eight(1600)
        self.assertEqual(told_for(message_of(text)), [-1])
        text = NEW + eight(77) + named(MAIL) + eight(1000) + eight(1600)
        self.assertEqual(told_for(message_of(text)), [-1])


class Another(unittest.TestCase):
    def test_another_service(self):
        for kind in (2, 4):
            for name in (NEWS, ANN, HOUSE, b"m", b"mai", b"mail1", b"1mail", b"liam", b"x" * 32):
                self.assertEqual(told_for(message_of(kind=kind), service=name), [-1])
                self.assertEqual(told_for(message_of(text_of(name), kind)), [-1])

    def test_another_nonce(self):
        for kind in (2, 4):
            for bit in range(64):
                self.assertEqual(told_for(message_of(kind=kind), nonce=77 ^ (1 << bit)), [-1])
        for nonce, within in ((0, GREATEST), (GREATEST, 0), (0, 1), (GREATEST, GREATEST - 1), (1000, 77), (1600, 77)):
            self.assertEqual(told_for(message_of(text_of(nonce=within)), nonce), [-1])


class ByItself(unittest.TestCase):
    def test_what_is_handed_in_stays(self):
        for message, service in ((message_of(), MAIL), (message_of(kind=4), NEWS), (b"", MAIL), (message_of(), b""),
                                 (message_of() + b"x", MAIL), (message_of(key=MAIL_KEY), MAIL), (bytes(512), MAIL),
                                 (message_of(text_of()[:-1]), MAIL)):
            handed = [Untouched(ANN_KEY), Untouched(message), Untouched(service)]
            tk_open(77, *handed)
            self.assertEqual(handed, [list(ANN_KEY), list(message), list(service)])

    def test_a_second_call_answers_like_the_first(self):
        self.assertEqual(told_for(message_of()), opened())
        self.assertEqual(told_for(message_of()), opened())
        for message, service, due in ((message_of(), NEWS, [-1]), (message_of(), b"", [-2]), (b"", MAIL, [-1])):
            self.assertEqual(told_for(message, service=service), due)
            self.assertEqual(told_for(message, service=service), due)
            self.assertEqual(told_for(message_of()), opened())

    def test_what_is_given_back_is_the_callers_own(self):
        handed = [list(ANN_KEY), list(message_of()), list(MAIL)]
        told = tk_open(77, *handed)
        told.clear()
        self.assertEqual(handed, [list(ANN_KEY), list(message_of()), list(MAIL)])
        self.assertEqual(tk_open(77, *handed), opened())


if __name__ == "__main__":
    unittest.main()
