"""The whole way that the document tells of, and the interface as it stands there."""

import inspect
import unittest

from trusthouse import desk, papers
from witness import (add, answer, asked, begin, bytes_answer, eight, given, key_of, let_in, more_asked, proof, run,
                     show, shown, ticket)

ANN, MAIL, HOUSE = b"ann", b"mail", b"keys"
ANN_KEY, MAIL_KEY, HOUSE_KEY = key_of(1), key_of(2), key_of(3)
FIRST, SECOND, THIRD = key_of(4), key_of(5), key_of(6)
INTERFACE = {
    desk.answers: ["calls"],
    papers.tk_ask: ["nonce", "life", "client", "service"],
    papers.tk_open: ["nonce", "key", "message", "service"],
    papers.tk_want: ["now", "nonce", "life", "key", "ticket", "client", "service"],
    papers.tk_prove: ["now", "key", "ticket", "client"],
}


class OneHouse:
    """Calls on one house: with each further call all are made again, since a list of calls has a house of its own."""

    def __init__(self):
        self.calls = []
        self.told = []

    def tell(self, call):
        self.calls.append(call)
        told = run(*self.calls)
        assert told[:-1] == self.told, "a further call changes what was answered ahead of it"
        self.told = told
        return told[-1]


class WholeWay(unittest.TestCase):
    def house(self):
        house = OneHouse()
        self.assertEqual(house.tell(begin()), [0])
        self.assertEqual(house.tell(add(ANN, ANN_KEY, 3600)), [0])
        self.assertEqual(house.tell(add(HOUSE, HOUSE_KEY, 3000)), [0])
        self.assertEqual(house.tell(add(MAIL, MAIL_KEY, 1000)), [0])
        return house

    def had_by_asking(self, house, now, nonce, life, service, service_key, fresh):
        """Key and ticket that were asked for with one's own key."""
        ask = papers.tk_ask(nonce, life, list(ANN), list(service))
        self.assertEqual(ask, bytes_answer(asked(ANN, service, nonce, life)))
        told = house.tell(answer(now, ask[1:], fresh))
        due = given(2, service_key, ANN_KEY, ANN, service, fresh, nonce, now, now + life)
        self.assertEqual(told, bytes_answer(due))
        return self.opened(told[1:], nonce, ANN_KEY, service, service_key, fresh, now, now + life)

    def had_by_wanting(self, house, now, nonce, life, key, sealed_ticket, fresh):
        """Key and ticket for mail that were had with a ticket for the house."""
        want = papers.tk_want(now, nonce, life, key, sealed_ticket, list(ANN), list(MAIL))
        due = more_asked(bytes(sealed_ticket), proof(bytes(key), ANN, now), MAIL, nonce, life)
        self.assertEqual(want, bytes_answer(due))
        told = house.tell(answer(now, want[1:], fresh))
        due = given(4, MAIL_KEY, bytes(key), ANN, MAIL, fresh, nonce, now, now + life)
        self.assertEqual(told, bytes_answer(due))
        self.assertEqual(house.tell(answer(now, want[1:], fresh)), [2, 9, 8])
        return self.opened(told[1:], nonce, bytes(key), MAIL, MAIL_KEY, fresh, now, now + life)

    def opened(self, message, nonce, key, service, service_key, fresh, start, end):
        told = papers.tk_open(nonce, list(key), message, list(service))
        sealed_ticket = ticket(service_key, ANN, fresh, start, end)
        self.assertEqual(told, bytes_answer(fresh + eight(start) + eight(end) + sealed_ticket))
        return told[1:17], told[33:]

    def let_in_once(self, house, now, key, sealed_ticket):
        prove = papers.tk_prove(now, key, sealed_ticket, list(ANN))
        due = shown(bytes(sealed_ticket), proof(bytes(key), ANN, now))
        self.assertEqual(prove, bytes_answer(due))
        self.assertEqual(house.tell(show(now, MAIL, prove[1:])), let_in(ANN, bytes(key)))
        self.assertEqual(house.tell(show(now, MAIL, prove[1:])), [8])

    def test_with_ones_own_key(self):
        house = self.house()
        key, sealed_ticket = self.had_by_asking(house, 1000, 77, 600, MAIL, MAIL_KEY, FIRST)
        self.let_in_once(house, 1100, key, sealed_ticket)

    def test_with_a_ticket_for_the_house(self):
        house = self.house()
        key, sealed_ticket = self.had_by_asking(house, 1000, 77, 2000, HOUSE, HOUSE_KEY, FIRST)
        key, sealed_ticket = self.had_by_wanting(house, 1200, 78, 900, key, sealed_ticket, SECOND)
        self.let_in_once(house, 1300, key, sealed_ticket)

    def test_both_ways_in_one_house(self):
        house = self.house()
        own, own_ticket = self.had_by_asking(house, 1000, 77, 600, MAIL, MAIL_KEY, FIRST)
        self.let_in_once(house, 1100, own, own_ticket)
        key, house_ticket = self.had_by_asking(house, 1100, 78, 2000, HOUSE, HOUSE_KEY, SECOND)
        more, more_ticket = self.had_by_wanting(house, 1100, 79, 900, key, house_ticket, THIRD)
        # The client, the service and the time are those of a proof that was let in, with whichever ticket.
        prove = papers.tk_prove(1100, more, more_ticket, list(ANN))
        self.assertEqual(house.tell(show(1100, MAIL, prove[1:])), [8])
        self.let_in_once(house, 1101, more, more_ticket)
        self.let_in_once(house, 1102, own, own_ticket)

    def test_the_least_and_the_greatest_numbers(self):
        for now, nonce, life in ((0, 0, 1), (2 ** 63 - 1, 2 ** 64 - 1, 600)):
            house = self.house()
            key, sealed_ticket = self.had_by_asking(house, now, nonce, life, HOUSE, HOUSE_KEY, FIRST)
            key, sealed_ticket = self.had_by_wanting(house, now, nonce, life, key, sealed_ticket, SECOND)
            self.let_in_once(house, now, key, sealed_ticket)

    def test_who_is_known_to_nobody_is_let_in_nowhere(self):
        house = self.house()
        ask = papers.tk_ask(77, 600, list(b"bob"), list(MAIL))
        refused = house.tell(answer(1000, ask[1:], FIRST))
        self.assertEqual(refused, [2, 9, 2])
        self.assertEqual(papers.tk_open(77, list(key_of(9)), refused[1:], list(MAIL)), [-1])
        own = ticket(key_of(9), b"bob", FIRST, 0, 9999)
        prove = papers.tk_prove(1000, list(FIRST), list(own), list(b"bob"))
        self.assertEqual(house.tell(show(1000, MAIL, prove[1:])), [5])


class Interface(unittest.TestCase):
    def test_names_and_arguments(self):
        for function, names in INTERFACE.items():
            spec = inspect.getfullargspec(function)
            self.assertEqual(spec.args, names)
            self.assertEqual((spec.varargs, spec.varkw, spec.defaults, spec.kwonlyargs), (None, None, None, []))

    def test_each_is_written_where_its_name_tells(self):
        self.assertEqual(desk.answers.__module__, "trusthouse.desk")
        for function in (papers.tk_ask, papers.tk_open, papers.tk_want, papers.tk_prove):
            self.assertEqual(function.__module__, "trusthouse.papers")


if __name__ == "__main__":
    unittest.main()
