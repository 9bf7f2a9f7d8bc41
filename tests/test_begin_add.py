"""Promises 1 and 2."""

import unittest

from witness import (MOST, NAME_SIGNS, add, answer, asked, begin, key_of, last, let_in, proof, refusal, run, show,
                     shown, ticket)

ANN, MAIL = b"ann", b"mail"


def many(count):
    return [add(b"n%d" % number, key_of(number), 9) for number in range(count)]


class Begin(unittest.TestCase):
    def test_answers_0(self):
        self.assertEqual(run(begin()), [[0]])
        self.assertEqual(run(begin(), begin(), begin()), [[0], [0], [0]])

    def test_forgets_names(self):
        ask = answer(5, asked(ANN, MAIL, 1, 1))
        told = run(begin(), add(ANN, key_of(1)), add(MAIL, key_of(2)), ask, begin(), ask, add(ANN, key_of(1)), ask)
        self.assertEqual(told[3][1], 2)
        self.assertEqual(told[4:], [[0], refusal(2), [0], refusal(3)])

    def test_forgets_256_names(self):
        told = run(begin(), *many(256), add(ANN, key_of(1)), begin(), add(ANN, key_of(1)))
        self.assertEqual(told[-3:], [[-5], [0], [0]])

    def test_forgets_what_was_shown(self):
        message = shown(ticket(key_of(2), ANN, key_of(7), 0, 99), proof(key_of(7), ANN, 50))
        known, tell = add(MAIL, key_of(2)), show(50, MAIL, message)
        told = run(begin(), known, tell, tell, begin(), tell, known, tell, tell)
        self.assertEqual(told[2:], [let_in(ANN, key_of(7)), [8], [0], [3], [0], let_in(ANN, key_of(7)), [8]])


class Add(unittest.TestCase):
    def test_names_of_1_to_32_bytes(self):
        for size in (1, 2, 31, 32):
            self.assertEqual(last(begin(), add(b"x" * size, key_of(1))), [0])
        for size in (0, 33, 34, 64):
            self.assertEqual(last(begin(), add(b"x" * size, key_of(1))), [-2])

    def test_the_signs_of_a_name(self):
        for sign in range(256):
            due = [0 if sign in NAME_SIGNS else -2]
            self.assertEqual(last(begin(), add(bytes([sign]), key_of(1))), due)
            self.assertEqual(last(begin(), add(bytes([97, sign]), key_of(1))), due)
            self.assertEqual(last(begin(), add(bytes([sign, 97]), key_of(1))), due)

    def test_life(self):
        self.assertEqual(last(begin(), add(ANN, key_of(1), 0)), [-2])
        self.assertEqual(last(begin(), add(b"", key_of(1), 0)), [-2])
        self.assertEqual(last(begin(), add(ANN, key_of(1), 1)), [0])
        self.assertEqual(last(begin(), add(ANN, key_of(1), MOST)), [0])

    def test_a_refused_name_is_not_known(self):
        told = run(begin(), add(ANN, key_of(1), 0), add(MAIL, key_of(2)), answer(5, asked(ANN, MAIL, 1, 1)))
        self.assertEqual(told, [[0], [-2], [0], refusal(2)])

    def test_the_256th_and_the_257th(self):
        told = run(begin(), *many(257), answer(5, asked(b"n256", b"n0", 1, 1)), answer(5, asked(b"n255", b"n0", 1, 1)))
        self.assertEqual(told[:-3], [[0]] * 257)
        self.assertEqual(told[-3:-1], [[-5], refusal(2)])
        self.assertEqual(told[-1][1], 2)

    def test_no_name_or_life_0_comes_before_too_many(self):
        told = run(begin(), *many(256), add(b"", key_of(1)), add(b"new", key_of(1), 0), add(b"n0", key_of(1), 0))
        self.assertEqual(told[-3:], [[-2], [-2], [-2]])

    def test_a_known_name_anew_has_another_key(self):
        message = shown(ticket(key_of(3), ANN, key_of(7), 0, 99), proof(key_of(7), ANN, 50))
        told = run(begin(), add(MAIL, key_of(2)), show(50, MAIL, message), add(MAIL, key_of(3)),
                   show(50, MAIL, message))
        self.assertEqual(told[2:], [[5], [0], let_in(ANN, key_of(7))])

    def test_a_known_name_anew_has_another_life(self):
        ask = answer(5, asked(ANN, MAIL, 1, 100))
        told = run(begin(), add(ANN, key_of(1), 40), add(MAIL, key_of(2), 50), ask, add(ANN, key_of(1), 90), ask,
                   add(ANN, key_of(1), 40), ask)
        self.assertNotEqual(told[3], told[5])
        self.assertEqual(told[3], told[7])

    def test_refused_anew_it_stays_as_it_was(self):
        ask = answer(5, asked(ANN, MAIL, 1, 100))
        told = run(begin(), add(ANN, key_of(1), 40), add(MAIL, key_of(2), 50), ask, add(ANN, key_of(3), 0), ask)
        self.assertEqual(told[4], [-2])
        self.assertEqual(told[3], told[5])

    def test_a_known_name_anew_when_256_are_known(self):
        ask = answer(5, asked(b"n0", b"n1", 1, 100))
        told = run(begin(), *many(256), ask, add(b"n0", key_of(9), 4), ask, add(b"new", key_of(1)))
        self.assertEqual(told[-3], [0])
        self.assertNotEqual(told[-4], told[-2])
        self.assertEqual(told[-1], [-5])

    def test_a_shown_proof_stays_held_when_names_are_added(self):
        message = shown(ticket(key_of(2), ANN, key_of(7), 0, 99), proof(key_of(7), ANN, 50))
        told = run(begin(), add(MAIL, key_of(2)), show(50, MAIL, message), add(MAIL, key_of(2), 3), add(ANN, key_of(1)),
                   show(50, MAIL, message))
        self.assertEqual(told[-1], [8])


if __name__ == "__main__":
    unittest.main()
