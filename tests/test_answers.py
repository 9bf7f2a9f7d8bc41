"""The interface: one flat list of calls, one flat list of answers."""

import unittest

from trusthouse.desk import answers
from witness import (FRESH, Untouched, add, answer, asked, begin, given, key_of, parted, proof, refusal, run, show,
                     shown, ticket)

ANN, MAIL = b"ann", b"mail"
ANN_KEY, MAIL_KEY, SESSION = key_of(1), key_of(2), key_of(7)


def flat(*calls):
    return [number for call in calls for number in call]


def some_calls():
    message = shown(ticket(MAIL_KEY, ANN, SESSION, 0, 99), proof(SESSION, ANN, 50))
    return flat(begin(), add(ANN, ANN_KEY, 9), add(b"", ANN_KEY, 9), add(MAIL, MAIL_KEY, 9),
                answer(5, asked(ANN, MAIL, 1, 3)), answer(5, b""), show(50, MAIL, message), show(50, MAIL, message),
                show(50, b"", message))


class Answers(unittest.TestCase):
    def test_the_list_to_the_letter(self):
        due_given = list(given(2, MAIL_KEY, ANN_KEY, ANN, MAIL, FRESH, 1, 5, 8))
        due = [1, 0, 1, 0, 1, -2, 1, 0, len(due_given) + 1, len(due_given), *due_given, 3, 2, 9, 1,
               50, 0, 3, 97, 110, 110, *bytes(29), *SESSION, 1, 8, 1, -2]
        self.assertEqual(answers(some_calls()), due)

    def test_it_is_a_list_of_ints(self):
        self.assertIs(type(answers(some_calls())), list)
        self.assertEqual({type(number) for number in answers(some_calls())}, {int})

    def test_what_is_handed_in_stays(self):
        calls = Untouched(some_calls())
        answers(calls)
        self.assertEqual(calls, some_calls())

    def test_what_is_given_back_is_the_callers_own(self):
        told = answers(some_calls())
        due = list(told)
        told.clear()
        self.assertEqual(answers(some_calls()), due)

    def test_two_lists_know_nothing_of_one_another(self):
        self.assertEqual(answers(some_calls()), answers(some_calls()))
        run(begin(), add(ANN, ANN_KEY), add(MAIL, MAIL_KEY))
        self.assertEqual(run(begin(), answer(5, asked(ANN, MAIL, 1, 1)))[-1], refusal(2))
        message = shown(ticket(MAIL_KEY, ANN, SESSION, 0, 99), proof(SESSION, ANN, 50))
        self.assertEqual(run(begin(), show(50, MAIL, message))[-1], [3])

    def test_400_calls(self):
        # Messages of 17 and of 16 bytes: the 400 calls come near to the 16000 numbers that a list may have.
        calls = flat(begin(), add(b"a", ANN_KEY, 9), add(b"m", MAIL_KEY, 9),
                     *[answer(now, asked(b"a", b"m", now, 4)[:(17 if now % 2 else 16)]) for now in range(397)])
        self.assertLessEqual(len(calls), 16000)
        told = parted(answers(calls))
        self.assertEqual(len(told), 400)
        for now in range(397):
            due = given(2, MAIL_KEY, ANN_KEY, b"a", b"m", FRESH, now, now, now + 4)
            self.assertEqual(told[3 + now], [len(due), *due] if now % 2 else refusal(1))

    def test_400_begins(self):
        self.assertEqual(answers([0] * 400), [1, 0] * 400)


if __name__ == "__main__":
    unittest.main()
