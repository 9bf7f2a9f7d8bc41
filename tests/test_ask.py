"""Promise 5, as far as it speaks of tk_ask."""

import unittest

from trusthouse.papers import tk_ask
from witness import (BESIDE, FRESH, MOST, NAME_SIGNS, NO_NAMES, Untouched, add, answer, asked, begin, bytes_answer,
                     given, key_of, last, refusal)

ANN, MAIL = b"ann", b"mail"
ANN_KEY, MAIL_KEY = key_of(1), key_of(2)


def told_for(nonce, life, client, service):
    return tk_ask(nonce, life, list(client), list(service))


class Asked(unittest.TestCase):
    def test_the_list_to_the_letter(self):
        due = [23,
               1,
               3, 97, 110, 110,
               5, 109, 97, 105, 108, 50,
               1, 2, 3, 4, 5, 6, 7, 8,
               9, 10, 11, 12]
        self.assertEqual(tk_ask(0x0102030405060708, 0x090A0B0C, [97, 110, 110], [109, 97, 105, 108, 50]), due)

    def test_it_is_a_list_of_ints(self):
        told = told_for(77, 600, ANN, MAIL)
        self.assertIs(type(told), list)
        self.assertEqual({type(number) for number in told}, {int})
        self.assertEqual({type(number) for number in told_for(77, 600, b"", MAIL)}, {int})

    def test_each_nonce(self):
        for nonce in (0, 1, 255, 256, 2 ** 32 - 1, 2 ** 32, 2 ** 63, 18446744073709551614, 18446744073709551615):
            told = told_for(nonce, 600, ANN, MAIL)
            self.assertEqual(told, bytes_answer(asked(ANN, MAIL, nonce, 600)))
            self.assertEqual(told[-12:-4], list(nonce.to_bytes(8, "big")))

    def test_each_life(self):
        for life in (0, 1, 255, 256, 65536, 2 ** 31, 4294967294, 4294967295):
            told = told_for(77, life, ANN, MAIL)
            self.assertEqual(told, bytes_answer(asked(ANN, MAIL, 77, life)))
            self.assertEqual(told[-4:], list(life.to_bytes(4, "big")))

    def test_the_least_and_the_greatest_together(self):
        self.assertEqual(told_for(0, 0, b"a", b"b"), [17, 1, 1, 97, 1, 98] + [0] * 12)
        self.assertEqual(told_for(2 ** 64 - 1, 2 ** 32 - 1, b"a", b"b"), [17, 1, 1, 97, 1, 98] + [255] * 12)

    def test_names_of_1_to_32_bytes(self):
        for size in range(1, 33):
            for client, service in ((b"x" * size, MAIL), (ANN, b"x" * size), (b"x" * size, b"y" * (33 - size))):
                told = told_for(77, 600, client, service)
                self.assertEqual(told, bytes_answer(asked(client, service, 77, 600)))
                self.assertEqual(told[0], 15 + len(client) + len(service))

    def test_the_longest(self):
        told = told_for(77, 600, b"x" * 32, b"y" * 32)
        self.assertEqual(told, [79, 1, 32] + [120] * 32 + [32] + [121] * 32 + [0] * 7 + [77, 0, 0, 2, 88])

    def test_both_the_same(self):
        self.assertEqual(told_for(77, 600, ANN, ANN), bytes_answer(asked(ANN, ANN, 77, 600)))
        one = list(ANN)
        self.assertEqual(tk_ask(77, 600, one, one), bytes_answer(asked(ANN, ANN, 77, 600)))
        self.assertEqual(one, list(ANN))


class NoName(unittest.TestCase):
    def test_each_byte_as_a_sign(self):
        for sign in range(256):
            for name in (bytes([sign]), bytes([97, sign]), bytes([sign, 97]), b"x" * 31 + bytes([sign])):
                good = sign in NAME_SIGNS
                due = bytes_answer(asked(name, MAIL, 77, 600)) if good else [-2]
                self.assertEqual(told_for(77, 600, name, MAIL), due)
                due = bytes_answer(asked(ANN, name, 77, 600)) if good else [-2]
                self.assertEqual(told_for(77, 600, ANN, name), due)

    def test_the_bytes_just_beside(self):
        due = [-2, -2, -2, -2, -2, 17, -2, 17]
        self.assertEqual([told_for(1, 1, bytes([sign]), b"m")[0] for sign in BESIDE], due)
        self.assertEqual([told_for(1, 1, b"m", bytes([sign]))[0] for sign in BESIDE], due)

    def test_the_client_the_service_or_both(self):
        for name in NO_NAMES:
            self.assertEqual(told_for(77, 600, name, MAIL), [-2])
            self.assertEqual(told_for(77, 600, ANN, name), [-2])
            self.assertEqual(told_for(77, 600, name, name), [-2])

    def test_whatever_nonce_and_life(self):
        for nonce, life in ((0, 0), (2 ** 64 - 1, MOST)):
            self.assertEqual(told_for(nonce, life, b"", MAIL), [-2])
            self.assertEqual(told_for(nonce, life, ANN, b"x" * 33), [-2])


class TakenByTheHouse(unittest.TestCase):
    def told_by_the_house(self, nonce, life, client, service):
        message = told_for(nonce, life, client, service)[1:]
        return last(begin(), add(ANN, ANN_KEY), add(MAIL, MAIL_KEY), answer(5, message))

    def test_it_is_given(self):
        for nonce, life in ((0, 1), (77, 600), (2 ** 64 - 1, MOST)):
            due = given(2, MAIL_KEY, ANN_KEY, ANN, MAIL, FRESH, nonce, 5, 5 + life)
            self.assertEqual(self.told_by_the_house(nonce, life, ANN, MAIL), bytes_answer(due))

    def test_it_is_refused_as_what_is_asked(self):
        self.assertEqual(self.told_by_the_house(77, 600, b"bob", MAIL), refusal(2))
        self.assertEqual(self.told_by_the_house(77, 600, ANN, b"news"), refusal(3))
        self.assertEqual(self.told_by_the_house(77, 0, ANN, MAIL), refusal(4))


class ByItself(unittest.TestCase):
    def test_what_is_handed_in_stays(self):
        for client, service in ((ANN, MAIL), (b"", MAIL), (ANN, b"x" * 64), (b"x" * 32, b"y" * 32)):
            first, second = Untouched(client), Untouched(service)
            tk_ask(77, 600, first, second)
            self.assertEqual((first, second), (list(client), list(service)))

    def test_a_second_call_answers_like_the_first(self):
        first = told_for(77, 600, ANN, MAIL)
        self.assertEqual(told_for(77, 600, ANN, b""), [-2])
        self.assertEqual(told_for(78, 1, MAIL, ANN), bytes_answer(asked(MAIL, ANN, 78, 1)))
        self.assertEqual(told_for(77, 600, ANN, MAIL), first)

    def test_what_is_given_back_is_the_callers_own(self):
        client, service = list(ANN), list(MAIL)
        told = tk_ask(77, 600, client, service)
        due = list(told)
        told.clear()
        self.assertEqual((client, service), (list(ANN), list(MAIL)))
        self.assertEqual(tk_ask(77, 600, client, service), due)


if __name__ == "__main__":
    unittest.main()
