"""Promise 3, where a ticket is asked; and what is no message at all."""

import itertools
import unittest

from witness import (FRESH, MOST, add, answer, asked, begin, bytes_answer, counted, eight, given, key_of, last, more_asked,
                     proof, refusal, run, seal, shown, ticket, unseal)

ANN, MAIL, HOUSE = b"ann", b"mail", b"keys"
ANN_KEY, MAIL_KEY, HOUSE_KEY, SESSION = key_of(1), key_of(2), key_of(3), key_of(7)
KNOWN = [begin(), add(ANN, ANN_KEY, 5000), add(MAIL, MAIL_KEY, 7000), add(HOUSE, HOUSE_KEY, 9000)]


def told_for(message, now=1000):
    return last(*KNOWN, answer(now, message))


class Given(unittest.TestCase):
    def test_the_message(self):
        due = given(2, MAIL_KEY, ANN_KEY, ANN, MAIL, FRESH, 77, 1000, 1600)
        self.assertEqual(told_for(asked(ANN, MAIL, 77, 600)), bytes_answer(due))

    def test_the_least_of_the_three_lives(self):
        for ask, client, service in itertools.permutations((10, 20, 30)):
            due = given(2, MAIL_KEY, ANN_KEY, ANN, MAIL, FRESH, 77, 1000, 1010)
            told = last(begin(), add(ANN, ANN_KEY, client), add(MAIL, MAIL_KEY, service),
                        answer(1000, asked(ANN, MAIL, 77, ask)))
            self.assertEqual(told, bytes_answer(due))

    def test_life_1_and_the_greatest(self):
        for life in (1, MOST):
            due = given(2, MAIL_KEY, ANN_KEY, ANN, MAIL, FRESH, 0, 5, 5 + life)
            told = last(begin(), add(ANN, ANN_KEY), add(MAIL, MAIL_KEY), answer(5, asked(ANN, MAIL, 0, life)))
            self.assertEqual(told, bytes_answer(due))

    def test_the_least_and_the_greatest_now_and_nonce(self):
        for now in (0, 2 ** 63 - 1):
            for nonce in (0, 2 ** 64 - 1):
                due = given(2, MAIL_KEY, ANN_KEY, ANN, MAIL, FRESH, nonce, now, now + MOST)
                told = last(begin(), add(ANN, ANN_KEY), add(MAIL, MAIL_KEY), answer(now, asked(ANN, MAIL, nonce, MOST)))
                self.assertEqual(told, bytes_answer(due))

    def test_names_of_1_and_32_bytes(self):
        for client, service in ((b"a", b"z" * 32), (b"0" * 32, b"-"), (b".", b"9")):
            due = given(2, MAIL_KEY, ANN_KEY, client, service, FRESH, 8, 1, 3)
            told = last(begin(), add(client, ANN_KEY), add(service, MAIL_KEY), answer(1, asked(client, service, 8, 2)))
            self.assertEqual(told, bytes_answer(due))

    def test_for_the_house_and_for_oneself(self):
        due = given(2, HOUSE_KEY, ANN_KEY, ANN, HOUSE, FRESH, 8, 1, 3)
        self.assertEqual(told_for(asked(ANN, HOUSE, 8, 2), 1), bytes_answer(due))
        due = given(2, ANN_KEY, ANN_KEY, ANN, ANN, FRESH, 8, 1, 3)
        self.assertEqual(told_for(asked(ANN, ANN, 8, 2), 1), bytes_answer(due))

    def test_asked_anew_it_is_given_anew(self):
        ask = answer(1000, asked(ANN, MAIL, 77, 600))
        told = run(*KNOWN, ask, ask, answer(1000, asked(ANN, MAIL, 77, 600), bytes(16)))
        self.assertEqual(told[-3], told[-2])
        self.assertEqual(told[-1], bytes_answer(given(2, MAIL_KEY, ANN_KEY, ANN, MAIL, bytes(16), 77, 1000, 1600)))

    def test_what_is_given_opens(self):
        told = bytes(told_for(asked(ANN, MAIL, 77, 600))[1:])
        size = int.from_bytes(told[1:3], "big")
        self.assertEqual(unseal(MAIL_KEY, told[3:3 + size])[:4], b"\3ann")
        self.assertEqual(unseal(ANN_KEY, told[5 + size:])[:16], FRESH)


class Refused(unittest.TestCase):
    def test_the_first_that_stands(self):
        for client_known, service_known, life in itertools.product((True, False), (True, False), (0, 1)):
            calls = [add(ANN, ANN_KEY)] * client_known + [add(MAIL, MAIL_KEY)] * service_known
            due = 2 if not client_known else 3 if not service_known else 4 if life == 0 else None
            told = last(begin(), *calls, answer(5, asked(ANN, MAIL, 1, life)))
            if due is None:
                self.assertEqual(told[1], 2)
            else:
                self.assertEqual(told, refusal(due))
            self.assertEqual(last(begin(), *calls, answer(5, asked(ANN, MAIL, 1, life) + b"x")), refusal(1))

    def test_names_that_are_none(self):
        for name in (b"", b"x" * 33, b"A", b"an n", b"ann\0", b"an_n", b"\xe1", b"a/b"):
            self.assertEqual(told_for(asked(name, MAIL, 1, 1)), refusal(1))
            self.assertEqual(told_for(asked(ANN, name, 1, 1)), refusal(1))

    def test_a_name_that_begins_alike_is_another(self):
        self.assertEqual(told_for(asked(b"an", MAIL, 1, 1)), refusal(2))
        self.assertEqual(told_for(asked(ANN, b"mail1", 1, 1)), refusal(3))


class NoMessage(unittest.TestCase):
    def good_ones(self):
        old, shows = ticket(HOUSE_KEY, ANN, SESSION, 0, 5000), proof(SESSION, ANN, 1000)
        return [asked(ANN, MAIL, 77, 600), more_asked(old, shows, MAIL, 77, 600)]

    def test_the_good_ones_are_none_of_these(self):
        self.assertEqual([told_for(message)[1] for message in self.good_ones()], [2, 4])

    def test_empty(self):
        self.assertEqual(told_for(b""), refusal(1))

    def test_bytes_too_few(self):
        for message in self.good_ones():
            for size in range(len(message)):
                self.assertEqual(told_for(message[:size]), refusal(1))

    def test_bytes_too_many(self):
        for message in self.good_ones():
            for extra in (b"\0", b"\1", b"xx", message):
                self.assertEqual(told_for(message + extra), refusal(1))
            self.assertEqual(told_for(b"\0" + message), refusal(1))

    def test_a_byte_between(self):
        for message in self.good_ones():
            for at in range(1, len(message)):
                self.assertEqual(told_for(message[:at] + b"\0" + message[at:])[:2], [2, 9])
        ask = asked(ANN, MAIL, 77, 600)
        for at in (5, 10, 18):
            self.assertEqual(told_for(ask[:at] + b"\0" + ask[at:]), refusal(1))

    def test_every_other_first_byte(self):
        for message in self.good_ones():
            for kind in range(256):
                if kind != message[0]:
                    self.assertEqual(told_for(bytes([kind]) + message[1:]), refusal(1))

    def test_the_kinds_that_nobody_asks_with(self):
        told = seal(ANN_KEY, SESSION + b"\4mail" + eight(1) + eight(2) + eight(3))
        old, shows = ticket(MAIL_KEY, ANN, SESSION, 0, 5000), proof(SESSION, ANN, 1000)
        for message in (b"\2" + counted(old) + counted(told), b"\4" + counted(old) + counted(told),
                        shown(old, shows), b"\x09\1"):
            self.assertEqual(told_for(message), refusal(1))

    def test_n_at_512_and_above(self):
        for first in range(10):
            self.assertEqual(told_for(bytes([first]) * 512), refusal(1))
        self.assertEqual(told_for(bytes(513)), [-2])
        for size, due in ((511, refusal(5)), (512, refusal(5)), (513, [-2])):
            message = more_asked(bytes(size - 22), b"", MAIL, 1, 1)
            self.assertEqual(len(message), size)
            self.assertEqual(told_for(message), due)


if __name__ == "__main__":
    unittest.main()
