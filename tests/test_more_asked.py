"""Promise 3, where a ticket for the house is there and more is asked."""

import itertools
import unittest

from trusthouse.house import House
from witness import (FRESH, MOST, add, answer, begin, bytes_answer, counted, eight, four, given, key_of, last, let_in,
                     more_asked, named, proof, refusal, run, seal, show, shown, ticket)

ANN, BOB, MAIL, HOUSE = b"ann", b"bob", b"mail", b"keys"
MAIL_KEY, HOUSE_KEY, SESSION = key_of(2), key_of(3), key_of(7)
KNOWN = [begin(), add(MAIL, MAIL_KEY, 700), add(HOUSE, HOUSE_KEY, 900)]
TICKET = ticket(HOUSE_KEY, ANN, SESSION, 500, 1500)


def more(sealed_ticket=TICKET, time=1000, service=MAIL, life=100, client=ANN, session=SESSION):
    return more_asked(sealed_ticket, proof(session, client, time), service, 77, life)


def told_for(message, now=1000):
    return last(*KNOWN, answer(now, message))


def given_until(end, start=1000):
    return bytes_answer(given(4, MAIL_KEY, SESSION, ANN, MAIL, FRESH, 77, start, end))


class Given(unittest.TestCase):
    def test_the_message(self):
        self.assertEqual(told_for(more()), given_until(1100))

    def test_the_least_of_life_and_the_services(self):
        wide = ticket(HOUSE_KEY, ANN, SESSION, 500, 9999)
        self.assertEqual(told_for(more(wide, life=699)), given_until(1699))
        self.assertEqual(told_for(more(wide, life=700)), given_until(1700))
        self.assertEqual(told_for(more(wide, life=MOST)), given_until(1700))

    def test_no_longer_than_the_ticket(self):
        for end, due in ((1001, 1001), (1099, 1099), (1100, 1100), (1101, 1100), (2 ** 64 - 1, 1100)):
            self.assertEqual(told_for(more(ticket(HOUSE_KEY, ANN, SESSION, 500, end))), given_until(due))

    def test_the_clients_life_does_not_count(self):
        told = last(*KNOWN, add(ANN, key_of(1), 1), answer(1000, more()))
        self.assertEqual(told, given_until(1100))

    def test_the_houses_life_does_not_count(self):
        told = last(begin(), add(MAIL, MAIL_KEY, 700), add(HOUSE, HOUSE_KEY, 1), answer(1000, more()))
        self.assertEqual(told, given_until(1100))

    def test_for_the_house_itself(self):
        due = given(4, HOUSE_KEY, SESSION, ANN, HOUSE, FRESH, 77, 1000, 1100)
        self.assertEqual(told_for(more(service=HOUSE)), bytes_answer(due))

    def test_the_greatest_now(self):
        now = 2 ** 63 - 1
        wide = ticket(HOUSE_KEY, ANN, SESSION, 0, 2 ** 64 - 1)
        calls = [begin(), add(MAIL, MAIL_KEY), add(HOUSE, HOUSE_KEY)]
        told = last(*calls, answer(now, more(wide, time=now, life=MOST)))
        self.assertEqual(told, given_until(now + MOST, now))

    def test_with_what_is_given_more_is_asked(self):
        first = bytes(told_for(more(service=HOUSE))[1:])
        size = int.from_bytes(first[1:3], "big")
        message = more_asked(first[3:3 + size], proof(FRESH, ANN, 1050), MAIL, 5, 9999)
        due = given(4, MAIL_KEY, FRESH, ANN, MAIL, bytes(16), 5, 1050, 1100)
        self.assertEqual(last(*KNOWN, answer(1050, message, bytes(16))), bytes_answer(due))


class Refused(unittest.TestCase):
    def test_the_first_that_stands(self):
        for faults in itertools.product((False, True), repeat=6):
            why1, why3, why4, why5, why6, why7 = faults
            old = ticket(MAIL_KEY if why5 else HOUSE_KEY, ANN, SESSION, 500, 1000 if why6 else 1001)
            message = more(old, time=699 if why7 else 700, service=b"none" if why3 else MAIL, life=0 if why4 else 1)
            told = told_for(message + b"x" * why1)
            due = [why for why, stands in zip((1, 3, 4, 5, 6, 7), faults) if stands]
            self.assertEqual(told, refusal(due[0]) if due else given_until(1001))

    def test_3_a_known_client_is_no_known_service(self):
        self.assertEqual(told_for(more(service=ANN)), refusal(3))

    def test_1_names_that_are_none(self):
        for name in (b"", b"x" * 33, b"Mail", b"ma il"):
            self.assertEqual(told_for(more(service=name)), refusal(1))

    def test_1_counts_that_do_not_fit(self):
        shows = proof(SESSION, ANN, 1000)
        tail = named(MAIL) + eight(77) + four(100)
        for message in (b"\3" + (len(TICKET) + 1).to_bytes(2, "big") + TICKET + counted(shows) + tail,
                        b"\3" + counted(TICKET) + (len(shows) - 1).to_bytes(2, "big") + shows + tail,
                        b"\3\xff\xff" + TICKET + counted(shows) + tail):
            self.assertEqual(told_for(message), refusal(1))

    def test_5_the_house_is_not_known(self):
        self.assertEqual(last(begin(), add(MAIL, MAIL_KEY), answer(1000, more())), refusal(5))

    def test_5_it_does_not_open_with_the_houses_key(self):
        for old in (b"", bytes(7), bytes(8), TICKET[:-1], TICKET + b"\0", TICKET[:-1] + bytes([TICKET[-1] ^ 1]),
                    ticket(MAIL_KEY, ANN, SESSION, 500, 1500), ticket(SESSION, ANN, SESSION, 500, 1500)):
            self.assertEqual(told_for(more(old)), refusal(5))

    def test_5_it_opens_but_is_not_one_within(self):
        within = named(ANN) + SESSION + eight(500) + eight(1500)
        for text in (b"", within[:-1], within + b"\0", b"\0" + within, within[4:], b"\0" + within[4:],
                     b"\3an " + within[4:], b"\x21" + b"a" * 33 + within[4:], b"\xff" + within[1:]):
            self.assertEqual(told_for(more(seal(HOUSE_KEY, text))), refusal(5))
        self.assertEqual(told_for(more(seal(HOUSE_KEY, within))), given_until(1100))

    def test_6_at_the_edges(self):
        old = ticket(HOUSE_KEY, ANN, SESSION, 500, 600)
        for now, due in ((499, 6), (500, None), (599, None), (600, 6)):
            told = told_for(more(old, time=now), now)
            self.assertEqual(told, refusal(due) if due else given_until(600, now))

    def test_6_a_ticket_that_is_never_good(self):
        for start, end in ((1000, 1000), (1001, 1000), (0, 0), (2 ** 64 - 1, 2 ** 64 - 1)):
            self.assertEqual(told_for(more(ticket(HOUSE_KEY, ANN, SESSION, start, end))), refusal(6))

    def test_7_at_the_edges(self):
        for time, due in ((699, 7), (700, None), (1300, None), (1301, 7), (0, 7), (2 ** 64 - 1, 7)):
            self.assertEqual(told_for(more(time=time)), refusal(due) if due else given_until(1100))

    def test_7_another_key_and_another_client(self):
        self.assertEqual(told_for(more(session=HOUSE_KEY)), refusal(7))
        for client in (BOB, b"an", b"annn"):
            self.assertEqual(told_for(more(client=client)), refusal(7))

    def test_7_it_opens_but_is_not_one(self):
        within = named(ANN) + eight(1000)
        for text in (b"", within[:-1], within + b"\0", b"\0" + eight(1000), within[4:], b"\3aNn" + within[4:]):
            self.assertEqual(told_for(more_asked(TICKET, seal(SESSION, text), MAIL, 77, 100)), refusal(7))
        for shows in (b"", bytes(7), bytes(17)):
            self.assertEqual(told_for(more_asked(TICKET, shows, MAIL, 77, 100)), refusal(7))


class Held(unittest.TestCase):
    def test_8_the_same_again(self):
        told = run(*KNOWN, answer(1000, more()), answer(1001, more(service=HOUSE)), answer(1000, more(time=1001)))
        self.assertEqual(told[3:], [given_until(1100), refusal(8), given_until(1100)])

    def test_it_is_held_to_the_house(self):
        tell = shown(TICKET, proof(SESSION, ANN, 1000))
        told = run(*KNOWN, answer(1000, more()), show(1000, HOUSE, tell), show(1000, MAIL, tell))
        self.assertEqual(told[-2:], [[8], [5]])
        told = run(*KNOWN, show(1000, HOUSE, tell), answer(1000, more()))
        self.assertEqual(told[-2:], [let_in(ANN, SESSION), refusal(8)])

    def test_it_is_not_held_to_the_service_asked_for(self):
        tell = shown(ticket(MAIL_KEY, ANN, SESSION, 0, 5000), proof(SESSION, ANN, 1000))
        told = run(*KNOWN, answer(1000, more()), show(1000, MAIL, tell))
        self.assertEqual(told[-1], let_in(ANN, SESSION))

    def test_what_is_refused_is_not_held(self):
        bad = [more(service=b"none"), more(life=0), more(ticket(MAIL_KEY, ANN, SESSION, 500, 1500)),
               more(ticket(HOUSE_KEY, ANN, SESSION, 500, 1000)), more(ticket(HOUSE_KEY, BOB, SESSION, 500, 1500))]
        told = run(*KNOWN, *[answer(1000, message) for message in bad], answer(1301, more()), answer(1000, more()))
        self.assertEqual(told[3:], [refusal(why) for why in (3, 4, 5, 6, 7, 7)] + [given_until(1100)])

    def test_3_to_7_come_before_8(self):
        faulty = [more(service=b"none"), more(life=0), more(ticket(MAIL_KEY, ANN, SESSION, 500, 1500)),
                  more(ticket(HOUSE_KEY, ANN, SESSION, 500, 1000)), more(ticket(HOUSE_KEY, BOB, SESSION, 500, 1500))]
        told = run(*KNOWN, answer(1000, more()), *[answer(1000, message) for message in faulty], answer(1301, more()),
                   answer(1300, more()))
        self.assertEqual(told[4:], [refusal(why) for why in (3, 4, 5, 6, 7, 7, 8)])

    def test_10_behind_all_others(self):
        house = House()
        house.make_known(700, list(MAIL), list(MAIL_KEY))
        house.make_known(900, list(HOUSE), list(HOUSE_KEY))
        for number in range(1024):
            self.assertEqual(house.held.hold(1000, list(b"c%d" % number), 1000, list(MAIL)), 0)
        self.assertEqual(house.answer(1000, list(more()), list(FRESH)), refusal(10))
        self.assertEqual(house.answer(1300, list(more(time=1200)), list(FRESH)), refusal(10))
        self.assertEqual(house.answer(1000, list(more(time=1301)), list(FRESH)), refusal(7))
        self.assertEqual(house.answer(1301, list(more(time=1301)), list(FRESH)), given_until(1401, 1301))


if __name__ == "__main__":
    unittest.main()
