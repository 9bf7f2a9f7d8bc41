"""Promise 5, as far as it speaks of tk_want."""

import unittest

from trusthouse.papers import tk_open, tk_want
from witness import (BESIDE, FRESH, MOST, NAME_SIGNS, NO_NAMES, Untouched, add, answer, begin, bytes_answer, eight,
                     given, key_of, last, more_asked, named, proof, refusal, run, ticket, unseal)

ANN, BOB, MAIL, HOUSE = b"ann", b"bob", b"mail", b"keys"
MAIL_KEY, HOUSE_KEY, SESSION = key_of(2), key_of(3), key_of(7)
TICKET = ticket(HOUSE_KEY, ANN, SESSION, 500, 1500)
KNOWN = [begin(), add(MAIL, MAIL_KEY), add(HOUSE, HOUSE_KEY)]
GREATEST_NOW = 9223372036854775807
GREATEST_NONCE = 18446744073709551615


def told_for(now=1000, nonce=77, life=100, key=SESSION, sealed_ticket=TICKET, client=ANN, service=MAIL):
    return tk_want(now, nonce, life, list(key), list(sealed_ticket), list(client), list(service))


def wanted(now=1000, nonce=77, life=100, key=SESSION, sealed_ticket=TICKET, client=ANN, service=MAIL):
    """The answer as the document has it."""
    return bytes_answer(more_asked(sealed_ticket, proof(key, client, now), service, nonce, life))


def bytes_of_ticket(size):
    return bytes((at * 7 + 1) % 256 for at in range(size))


class Wanted(unittest.TestCase):
    def test_the_list_to_the_letter(self):
        # A proof of ann's: 8 bytes of the sum, 4 of the name, 8 of the time.
        sealed_proof = list(proof(SESSION, b"ann", 1000))
        due = [45,
               3,
               0, 3, 200, 201, 202,
               0, 20, *sealed_proof,
               4, 109, 97, 105, 108,
               1, 2, 3, 4, 5, 6, 7, 8,
               9, 10, 11, 12]
        told = tk_want(1000, 0x0102030405060708, 0x090A0B0C, list(SESSION), [200, 201, 202], [97, 110, 110],
                       [109, 97, 105, 108])
        self.assertEqual(told, due)
        self.assertEqual(len(told), 46)

    def test_the_proof_opens_with_the_key_and_holds_the_client_and_now(self):
        for key in (SESSION, bytes(16), bytes([255] * 16)):
            for client in (b"a", ANN, b"x" * 32):
                told = told_for(258, key=key, client=client)
                first = 1 + 1 + 2 + len(TICKET)
                size = 8 + 1 + len(client) + 8
                self.assertEqual(told[first:first + 2], [0, size])
                text = unseal(key, bytes(told[first + 2:first + 2 + size]))
                self.assertEqual(text, named(client) + b"\0\0\0\0\0\0\1\2")

    def test_it_is_a_list_of_ints(self):
        for told in (told_for(), told_for(client=b""), told_for(service=b""), told_for(sealed_ticket=b"")):
            self.assertIs(type(told), list)
            self.assertEqual({type(number) for number in told}, {int})

    def test_each_now(self):
        for now in (0, 1, 255, 256, 2 ** 32 - 1, 2 ** 32, 2 ** 62, GREATEST_NOW - 1, GREATEST_NOW):
            self.assertEqual(told_for(now), wanted(now))

    def test_each_nonce(self):
        for nonce in (0, 1, 255, 256, 2 ** 32 - 1, 2 ** 32, 2 ** 63, GREATEST_NONCE - 1, GREATEST_NONCE):
            told = told_for(nonce=nonce)
            self.assertEqual(told, wanted(nonce=nonce))
            self.assertEqual(told[-12:-4], list(eight(nonce)))

    def test_each_life(self):
        for life in (0, 1, 255, 256, 65536, 2 ** 31, 4294967294, 4294967295):
            told = told_for(life=life)
            self.assertEqual(told, wanted(life=life))
            self.assertEqual(told[-4:], list(life.to_bytes(4, "big")))

    def test_the_least_and_the_greatest_together(self):
        told = told_for(0, 0, 0, bytes(16), b"", b"a", b"m")
        self.assertEqual(told, [37, 3, 0, 0, 0, 18, *proof(bytes(16), b"a", 0), 1, 109] + [0] * 12)
        name, key, sealed_ticket = b"z" * 32, bytes([255] * 16), bytes([255] * 200)
        told = told_for(GREATEST_NOW, GREATEST_NONCE, MOST, key, sealed_ticket, name, name)
        due = [299, 3, 0, 200, *sealed_ticket, 0, 49, *proof(key, name, GREATEST_NOW), 32, *name] + [255] * 12
        self.assertEqual(told, due)

    def test_tickets_of_0_to_200_bytes_as_they_are(self):
        for size in (0, 1, 2, 7, 8, 9, 36, 127, 128, 198, 199, 200):
            sealed_ticket = bytes_of_ticket(size)
            told = told_for(sealed_ticket=sealed_ticket)
            self.assertEqual(told, wanted(sealed_ticket=sealed_ticket))
            self.assertEqual(told[:4 + size], [42 + size, 3, 0, size, *sealed_ticket])
        for octet in (0, 255):
            self.assertEqual(told_for(sealed_ticket=[octet] * 200), wanted(sealed_ticket=bytes([octet] * 200)))

    def test_keys_as_they_are(self):
        for key in (bytes(16), bytes([255] * 16), bytes(range(16)), HOUSE_KEY):
            self.assertEqual(told_for(key=key), wanted(key=key))

    def test_names_of_1_to_32_bytes(self):
        for size in range(1, 33):
            for client, service in ((b"x" * size, MAIL), (ANN, b"x" * size), (b"x" * size, b"y" * (33 - size))):
                told = told_for(client=client, service=service)
                self.assertEqual(told, wanted(client=client, service=service))
                self.assertEqual(told[0], 35 + len(TICKET) + len(client) + len(service))

    def test_both_the_same(self):
        for name in (ANN, MAIL, HOUSE, b"x" * 32):
            self.assertEqual(told_for(client=name, service=name), wanted(client=name, service=name))
        one = list(ANN)
        self.assertEqual(tk_want(1000, 77, 100, list(SESSION), list(TICKET), one, one), wanted(service=ANN))
        self.assertEqual(one, list(ANN))


class NoName(unittest.TestCase):
    def test_each_byte_as_a_sign(self):
        for sign in range(256):
            for name in (bytes([sign]), bytes([97, sign]), bytes([sign, 97]), b"x" * 31 + bytes([sign])):
                good = sign in NAME_SIGNS
                self.assertEqual(told_for(client=name), wanted(client=name) if good else [-2])
                self.assertEqual(told_for(service=name), wanted(service=name) if good else [-2])

    def test_the_bytes_just_beside(self):
        due = [-2, -2, -2, -2, -2, 37, -2, 37]
        self.assertEqual([told_for(sealed_ticket=b"", client=[sign], service=b"m")[0] for sign in BESIDE], due)
        self.assertEqual([told_for(sealed_ticket=b"", client=b"m", service=[sign])[0] for sign in BESIDE], due)

    def test_the_client_the_service_or_both(self):
        for name in NO_NAMES:
            self.assertEqual(told_for(client=name), [-2])
            self.assertEqual(told_for(service=name), [-2])
            self.assertEqual(told_for(client=name, service=name), [-2])

    def test_whatever_else(self):
        for now, nonce, life, size in ((0, 0, 0, 0), (GREATEST_NOW, GREATEST_NONCE, MOST, 200), (0, 0, 0, 201)):
            for client, service in ((b"", MAIL), (b"x" * 33, MAIL), (ANN, b""), (ANN, b"x" * 33)):
                told = told_for(now, nonce, life, sealed_ticket=bytes(size), client=client, service=service)
                self.assertEqual(told, [-2])


class TooLong(unittest.TestCase):
    def test_t_above_200(self):
        for size in (201, 202, 255, 256, 257, 400, 512):
            self.assertEqual(told_for(sealed_ticket=bytes_of_ticket(size)), [-2])


class TakenByTheHouse(unittest.TestCase):
    def answered(self, now=1000, **others):
        return last(*KNOWN, answer(now, told_for(now, **others)[1:]))

    def test_more_is_given_and_opens_with_the_tickets_key(self):
        for nonce, life in ((0, 1), (77, 100), (GREATEST_NONCE, 500)):
            message = self.answered(nonce=nonce, life=life)
            due = given(4, MAIL_KEY, SESSION, ANN, MAIL, FRESH, nonce, 1000, 1000 + life)
            self.assertEqual(message, bytes_answer(due))
            opened = tk_open(nonce, list(SESSION), message[1:], list(MAIL))
            new = ticket(MAIL_KEY, ANN, FRESH, 1000, 1000 + life)
            self.assertEqual(opened, bytes_answer(FRESH + eight(1000) + eight(1000 + life) + new))
            self.assertEqual(tk_open(nonce, list(HOUSE_KEY), message[1:], list(MAIL)), [-1])

    def test_the_longest_names_and_the_greatest_now(self):
        client, service, now = b"c" * 32, b"s" * 32, GREATEST_NOW
        old = ticket(HOUSE_KEY, client, SESSION, 0, GREATEST_NONCE)
        message = told_for(now, GREATEST_NONCE, MOST, SESSION, old, client, service)[1:]
        told = last(*KNOWN, add(service, MAIL_KEY), answer(now, message))
        due = given(4, MAIL_KEY, SESSION, client, service, FRESH, GREATEST_NONCE, now, now + MOST)
        self.assertEqual(told, bytes_answer(due))

    def test_for_the_house_itself(self):
        due = given(4, HOUSE_KEY, SESSION, ANN, HOUSE, FRESH, 77, 1000, 1100)
        self.assertEqual(self.answered(service=HOUSE), bytes_answer(due))

    def test_once(self):
        message = told_for()[1:]
        told = run(*KNOWN, answer(1000, message), answer(1000, message), answer(1001, told_for(1001)[1:]))
        self.assertEqual([row[1] for row in told[3:]], [4, 9, 4])
        self.assertEqual(told[4], refusal(8))

    def test_it_is_refused_as_what_is_more_asked(self):
        self.assertEqual(self.answered(service=b"news"), refusal(3))
        self.assertEqual(self.answered(life=0), refusal(4))
        for sealed_ticket in (b"", b"x", bytes(7), bytes(8), bytes(200), ticket(MAIL_KEY, ANN, SESSION, 500, 1500)):
            self.assertEqual(self.answered(sealed_ticket=sealed_ticket), refusal(5))
        self.assertEqual(self.answered(1500), refusal(6))
        self.assertEqual(self.answered(key=HOUSE_KEY), refusal(7))
        self.assertEqual(self.answered(client=BOB), refusal(7))
        self.assertEqual(last(*KNOWN, answer(1301, told_for(1000)[1:])), refusal(7))


class ByItself(unittest.TestCase):
    def test_what_is_handed_in_stays(self):
        for sealed_ticket, client, service in ((TICKET, ANN, MAIL), (b"", b"x" * 32, b"y" * 32),
                                               (TICKET, ANN, b"x" * 64), (bytes(200), b"", MAIL),
                                               (bytes(201), ANN, MAIL)):
            handed = [Untouched(SESSION), Untouched(sealed_ticket), Untouched(client), Untouched(service)]
            tk_want(1000, 77, 100, *handed)
            self.assertEqual(handed, [list(SESSION), list(sealed_ticket), list(client), list(service)])

    def test_a_second_call_answers_like_the_first(self):
        self.assertEqual(told_for(), wanted())
        self.assertEqual(told_for(), wanted())
        self.assertEqual(told_for(client=b""), [-2])
        others = (1001, 78, 1, MAIL_KEY, b"x", MAIL, ANN)
        self.assertEqual(told_for(*others), wanted(*others))
        self.assertEqual(told_for(), wanted())

    def test_what_is_given_back_is_the_callers_own(self):
        handed = [list(SESSION), list(TICKET), list(ANN), list(MAIL)]
        told = tk_want(1000, 77, 100, *handed)
        told.clear()
        self.assertEqual(handed, [list(SESSION), list(TICKET), list(ANN), list(MAIL)])
        self.assertEqual(tk_want(1000, 77, 100, *handed), wanted())


if __name__ == "__main__":
    unittest.main()
