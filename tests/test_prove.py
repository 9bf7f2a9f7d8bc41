"""Promise 5, as far as it speaks of tk_prove."""

import unittest

from trusthouse.papers import tk_ask, tk_open, tk_prove, tk_want
from witness import (BESIDE, FRESH, NAME_SIGNS, NO_NAMES, Untouched, add, answer, begin, bytes_answer, eight, key_of,
                     last, let_in, named, proof, refusal, run, show, shown, ticket, unseal)

ANN, BOB, MAIL, NEWS, HOUSE = b"ann", b"bob", b"mail", b"news", b"keys"
ANN_KEY, MAIL_KEY, HOUSE_KEY, SESSION = key_of(1), key_of(2), key_of(3), key_of(7)
TICKET = ticket(MAIL_KEY, ANN, SESSION, 500, 1500)
KNOWN = [begin(), add(ANN, ANN_KEY), add(MAIL, MAIL_KEY), add(HOUSE, HOUSE_KEY)]
GREATEST_NOW = 9223372036854775807


def told_for(now=1000, key=SESSION, sealed_ticket=TICKET, client=ANN):
    return tk_prove(now, list(key), list(sealed_ticket), list(client))


def proved(now=1000, key=SESSION, sealed_ticket=TICKET, client=ANN):
    """The answer as the document has it."""
    return bytes_answer(shown(sealed_ticket, proof(key, client, now)))


def bytes_of_ticket(size):
    return bytes((at * 7 + 1) % 256 for at in range(size))


class Proved(unittest.TestCase):
    def test_the_list_to_the_letter(self):
        # A proof of ann's: 8 bytes of the sum, 4 of the name, 8 of the time.
        due = [28,
               5,
               0, 3, 200, 201, 202,
               0, 20, *proof(SESSION, b"ann", 1000)]
        self.assertEqual(tk_prove(1000, list(SESSION), [200, 201, 202], [97, 110, 110]), due)
        self.assertEqual(len(due), 29)

    def test_the_proof_opens_with_the_key_and_holds_the_client_and_now(self):
        for key in (SESSION, bytes(16), bytes([255] * 16)):
            for client in (b"a", ANN, b"x" * 32):
                told = told_for(258, key, client=client)
                first = 1 + 1 + 2 + len(TICKET)
                self.assertEqual(told[first:first + 2], [0, 8 + 1 + len(client) + 8])
                text = unseal(key, bytes(told[first + 2:]))
                self.assertEqual(text, named(client) + b"\0\0\0\0\0\0\1\2")

    def test_it_is_a_list_of_ints(self):
        for told in (told_for(), told_for(client=b""), told_for(sealed_ticket=b""), told_for(sealed_ticket=bytes(201))):
            self.assertIs(type(told), list)
            self.assertEqual({type(number) for number in told}, {int})

    def test_each_now(self):
        for now in (0, 1, 255, 256, 2 ** 32 - 1, 2 ** 32, 2 ** 62, GREATEST_NOW - 1, GREATEST_NOW):
            told = told_for(now)
            self.assertEqual(told, proved(now))
            self.assertEqual(unseal(SESSION, bytes(told[6 + len(TICKET):])), named(ANN) + eight(now))

    def test_the_least_and_the_greatest_together(self):
        told = told_for(0, bytes(16), b"", b"a")
        self.assertEqual(told, [23, 5, 0, 0, 0, 18, *proof(bytes(16), b"a", 0)])
        name, key, sealed_ticket = b"z" * 32, bytes([255] * 16), bytes([255] * 200)
        told = told_for(GREATEST_NOW, key, sealed_ticket, name)
        self.assertEqual(told, [254, 5, 0, 200, *sealed_ticket, 0, 49, *proof(key, name, GREATEST_NOW)])

    def test_tickets_of_0_to_200_bytes_as_they_are(self):
        for size in (0, 1, 2, 7, 8, 9, 36, 127, 128, 198, 199, 200):
            sealed_ticket = bytes_of_ticket(size)
            told = told_for(sealed_ticket=sealed_ticket)
            self.assertEqual(told, proved(sealed_ticket=sealed_ticket))
            self.assertEqual(told[:4 + size], [25 + size, 5, 0, size, *sealed_ticket])
        for octet in (0, 255):
            self.assertEqual(told_for(sealed_ticket=[octet] * 200), proved(sealed_ticket=bytes([octet] * 200)))

    def test_keys_as_they_are(self):
        for key in (bytes(16), bytes([255] * 16), bytes(range(16)), MAIL_KEY):
            self.assertEqual(told_for(key=key), proved(key=key))

    def test_names_of_1_to_32_bytes(self):
        for size in range(1, 33):
            told = told_for(client=b"x" * size)
            self.assertEqual(told, proved(client=b"x" * size))
            self.assertEqual(told[0], 22 + len(TICKET) + size)


class NoName(unittest.TestCase):
    def test_each_byte_as_a_sign(self):
        for sign in range(256):
            for name in (bytes([sign]), bytes([97, sign]), bytes([sign, 97]), b"x" * 31 + bytes([sign])):
                self.assertEqual(told_for(client=name), proved(client=name) if sign in NAME_SIGNS else [-2])

    def test_the_bytes_just_beside(self):
        told = [told_for(sealed_ticket=b"", client=[sign])[0] for sign in BESIDE]
        self.assertEqual(told, [-2, -2, -2, -2, -2, 23, -2, 23])

    def test_whatever_now_and_ticket(self):
        for name in NO_NAMES:
            for now, size in ((1000, 36), (0, 0), (GREATEST_NOW, 200), (0, 201)):
                self.assertEqual(told_for(now, sealed_ticket=bytes(size), client=name), [-2])


class TooLong(unittest.TestCase):
    def test_t_above_200(self):
        for size in (201, 202, 255, 256, 257, 400, 512):
            self.assertEqual(told_for(sealed_ticket=bytes_of_ticket(size)), [-2])


class LetIn(unittest.TestCase):
    def shown_to(self, service, now=1000, **others):
        return last(*KNOWN, show(now, service, told_for(now, **others)[1:]))

    def test_once_with_what_tk_open_gave(self):
        ask = answer(1000, tk_ask(77, 600, list(ANN), list(MAIL))[1:])
        opened = tk_open(77, list(ANN_KEY), last(*KNOWN, ask)[1:], list(MAIL))
        key, sealed_ticket = opened[1:17], opened[33:]
        for time in (1000, 1100, 1599):
            tell = show(time, MAIL, tk_prove(time, key, sealed_ticket, list(ANN))[1:])
            told = run(*KNOWN, ask, tell, tell)
            self.assertEqual(told[-2:], [let_in(ANN, FRESH), [8]])

    def test_once_with_what_was_more_given(self):
        old = ticket(HOUSE_KEY, ANN, SESSION, 500, 1500)
        want = answer(1000, tk_want(1000, 77, 100, list(SESSION), list(old), list(ANN), list(MAIL))[1:])
        opened = tk_open(77, list(SESSION), last(*KNOWN, want)[1:], list(MAIL))
        key, sealed_ticket = opened[1:17], opened[33:]
        tell = show(1000, MAIL, tk_prove(1000, key, sealed_ticket, list(ANN))[1:])
        self.assertEqual(run(*KNOWN, want, tell, tell)[-2:], [let_in(ANN, FRESH), [8]])

    def test_anew_with_another_time(self):
        first, second = (show(1000, MAIL, told_for(time)[1:]) for time in (1000, 1001))
        self.assertEqual(run(*KNOWN, first, second, first, second)[-4:], [let_in(ANN, SESSION)] * 2 + [[8]] * 2)

    def test_the_longest_name_and_the_greatest_now(self):
        client = b"z" * 32
        wide = ticket(MAIL_KEY, client, SESSION, 0, 2 ** 64 - 1)
        told = self.shown_to(MAIL, GREATEST_NOW, sealed_ticket=wide, client=client)
        self.assertEqual(told, let_in(client, SESSION))

    def test_it_is_refused_as_what_is_shown(self):
        self.assertEqual(self.shown_to(NEWS), [3])
        self.assertEqual(self.shown_to(HOUSE), [5])
        for size in (0, 1, 7, 8, 200):
            self.assertEqual(self.shown_to(MAIL, sealed_ticket=bytes(size)), [5])
        self.assertEqual(self.shown_to(MAIL, 1500), [6])
        self.assertEqual(self.shown_to(MAIL, key=MAIL_KEY), [7])
        self.assertEqual(self.shown_to(MAIL, client=BOB), [7])
        self.assertEqual(last(*KNOWN, show(1301, MAIL, told_for(1000)[1:])), [7])

    def test_the_house_answers_nothing_to_it(self):
        self.assertEqual(last(*KNOWN, answer(1000, told_for()[1:])), refusal(1))


class ByItself(unittest.TestCase):
    def test_what_is_handed_in_stays(self):
        for sealed_ticket, client in ((TICKET, ANN), (b"", b"x" * 32), (bytes(200), b""), (TICKET, b"x" * 64),
                                      (bytes(201), ANN)):
            handed = [Untouched(SESSION), Untouched(sealed_ticket), Untouched(client)]
            tk_prove(1000, *handed)
            self.assertEqual(handed, [list(SESSION), list(sealed_ticket), list(client)])

    def test_a_second_call_answers_like_the_first(self):
        self.assertEqual(told_for(), proved())
        self.assertEqual(told_for(), proved())
        self.assertEqual(told_for(client=b""), [-2])
        others = (1001, MAIL_KEY, b"x", MAIL)
        self.assertEqual(told_for(*others), proved(*others))
        self.assertEqual(told_for(), proved())

    def test_what_is_given_back_is_the_callers_own(self):
        handed = [list(SESSION), list(TICKET), list(ANN)]
        told = tk_prove(1000, *handed)
        told.clear()
        self.assertEqual(handed, [list(SESSION), list(TICKET), list(ANN)])
        self.assertEqual(tk_prove(1000, *handed), proved())


if __name__ == "__main__":
    unittest.main()
