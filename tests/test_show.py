"""Promise 4."""

import itertools
import unittest

from trusthouse.house import House
from witness import (add, answer, asked, begin, counted, eight, key_of, last, let_in, more_asked, named, proof, run, seal,
                     show, shown, ticket)

ANN, BOB, MAIL, NEWS, HOUSE = b"ann", b"bob", b"mail", b"news", b"keys"
MAIL_KEY, NEWS_KEY, SESSION = key_of(2), key_of(4), key_of(7)
KNOWN = [begin(), add(MAIL, MAIL_KEY, 1), add(NEWS, NEWS_KEY, 1)]
TICKET = ticket(MAIL_KEY, ANN, SESSION, 500, 1500)
ANN_IN = let_in(ANN, SESSION)


def message_of(sealed_ticket=TICKET, time=1000, client=ANN, session=SESSION):
    return shown(sealed_ticket, proof(session, client, time))


def told_for(message, now=1000, name=MAIL):
    return last(*KNOWN, show(now, name, message))


class LetIn(unittest.TestCase):
    def test_0_and_49_bytes(self):
        told = told_for(message_of())
        self.assertEqual(told, [0, 3, 97, 110, 110] + [0] * 29 + list(SESSION))
        self.assertEqual(len(told), 50)

    def test_clients_of_1_and_32_bytes(self):
        for client in (b"a", b"9" * 31, b"z-." * 10 + b"00"):
            told = told_for(message_of(ticket(MAIL_KEY, client, SESSION, 500, 1500), client=client))
            self.assertEqual(told, let_in(client, SESSION))
            self.assertEqual(len(told), 50)

    def test_to_the_house_too(self):
        tell = show(1000, HOUSE, message_of(ticket(key_of(3), ANN, SESSION, 500, 1500)))
        self.assertEqual(run(*KNOWN, tell, add(HOUSE, key_of(3)), tell)[-3:], [[3], [0], ANN_IN])

    def test_the_lives_of_names_do_not_count(self):
        self.assertEqual(told_for(message_of(time=1499), 1499), ANN_IN)


class Refused(unittest.TestCase):
    def test_no_name(self):
        for name in (b"", b"x" * 33, b"x" * 64, b"Mail", b"ma_il", b"mail\0", b"\xff"):
            self.assertEqual(told_for(message_of(), name=name), [-2])
            self.assertEqual(told_for(b"", name=name), [-2])

    def test_m_above_512(self):
        self.assertEqual(told_for(bytes(513)), [-2])
        self.assertEqual(told_for(shown(bytes(508), b"")), [-2])
        self.assertEqual(told_for(shown(bytes(507), b"")), [5])
        self.assertEqual(told_for(bytes(512)), [1])

    def test_the_first_that_stands(self):
        for faults in itertools.product((False, True), repeat=6):
            why1, why3, why5, why6, why7, why8 = faults
            old = ticket(NEWS_KEY if why5 else MAIL_KEY, ANN, SESSION, 500, 1000 if why6 else 1001)
            # With another client in the ticket the proof is another's, be it held or not.
            if why7:
                old = ticket(NEWS_KEY if why5 else MAIL_KEY, BOB, SESSION, 500, 1000 if why6 else 1001)
            before = [show(1000, MAIL, message_of())] if why8 else []
            tell = show(1000, b"none" if why3 else MAIL, message_of(old) + b"x" * why1)
            due = [why for why, stands in zip((1, 3, 5, 6, 7, 8), faults) if stands]
            self.assertEqual(last(*KNOWN, *before, tell), [due[0]] if due else ANN_IN)

    def test_1_bytes_too_few_or_too_many(self):
        message = message_of()
        for size in range(len(message)):
            self.assertEqual(told_for(message[:size]), [1])
        for extra in (b"\0", b"\5", message):
            self.assertEqual(told_for(message + extra), [1])
        self.assertEqual(told_for(b"\0" + message), [1])

    def test_1_every_other_first_byte(self):
        for kind in range(256):
            self.assertEqual(told_for(bytes([kind]) + message_of()[1:]), ANN_IN if kind == 5 else [1])

    def test_1_well_formed_but_not_shown(self):
        shows = proof(SESSION, ANN, 1000)
        told = seal(SESSION, SESSION + named(MAIL) + eight(1) + eight(2) + eight(3))
        for message in (asked(ANN, MAIL, 1, 1), more_asked(TICKET, shows, MAIL, 1, 1),
                        b"\2" + counted(TICKET) + counted(told), b"\4" + counted(TICKET) + counted(told), b"\x09\1"):
            self.assertEqual(told_for(message), [1])
            self.assertEqual(told_for(message, name=b"none"), [1])

    def test_3_the_service_is_not_known(self):
        for name in (b"none", b"mai", b"mail1", ANN):
            self.assertEqual(told_for(message_of(), name=name), [3])

    def test_5_it_does_not_open_with_the_services_key(self):
        self.assertEqual(told_for(message_of(), name=NEWS), [5])
        for old in (b"", bytes(7), bytes(8), TICKET[:-1], TICKET + b"\0", bytes([TICKET[0] ^ 128]) + TICKET[1:]):
            self.assertEqual(told_for(message_of(old)), [5])

    def test_5_it_opens_but_is_not_one_within(self):
        within = named(ANN) + SESSION + eight(500) + eight(1500)
        for text in (b"", within[:-1], within + b"\0", within[4:], b"\0" + within[4:], b"\3a_n" + within[4:]):
            self.assertEqual(told_for(message_of(seal(MAIL_KEY, text))), [5])

    def test_6_at_the_edges(self):
        for now, due in ((499, [6]), (500, ANN_IN), (1499, ANN_IN), (1500, [6])):
            self.assertEqual(told_for(message_of(time=now), now), due)

    def test_6_a_ticket_that_is_never_good(self):
        for start, end in ((1000, 1000), (1001, 1000), (0, 0), (2 ** 64 - 1, 2 ** 64 - 1)):
            self.assertEqual(told_for(message_of(ticket(MAIL_KEY, ANN, SESSION, start, end))), [6])

    def test_6_the_least_and_the_greatest_now(self):
        wide = ticket(MAIL_KEY, ANN, SESSION, 0, 2 ** 64 - 1)
        for now in (0, 2 ** 63 - 1):
            self.assertEqual(told_for(message_of(wide, time=now), now), ANN_IN)

    def test_7_at_the_edges(self):
        for time, due in ((699, [7]), (700, ANN_IN), (1300, ANN_IN), (1301, [7]), (0, [7]), (2 ** 64 - 1, [7])):
            self.assertEqual(told_for(message_of(time=time)), due)

    def test_7_another_key_another_client_or_no_proof(self):
        self.assertEqual(told_for(message_of(session=MAIL_KEY)), [7])
        for client in (BOB, b"an", b"annn"):
            self.assertEqual(told_for(message_of(client=client)), [7])
        within = named(ANN) + eight(1000)
        for text in (b"", within[:-1], within + b"\0", b"\0" + eight(1000), b"\3an!" + within[4:]):
            self.assertEqual(told_for(shown(TICKET, seal(SESSION, text))), [7])
        for shows in (b"", bytes(7), bytes(17)):
            self.assertEqual(told_for(shown(TICKET, shows)), [7])


class ShownAgain(unittest.TestCase):
    def test_8_to_the_same_service(self):
        tell = [show(now, MAIL, message_of()) for now in (1000, 1000, 700, 1300)]
        self.assertEqual(run(*KNOWN, *tell)[3:], [ANN_IN, [8], [8], [8]])

    def test_8_with_another_ticket_of_the_same_client(self):
        other = message_of(ticket(MAIL_KEY, ANN, key_of(8), 0, 9999), session=key_of(8))
        told = run(*KNOWN, show(1000, MAIL, message_of()), show(1000, MAIL, other))
        self.assertEqual(told[3:], [ANN_IN, [8]])

    def test_to_another_service(self):
        other = message_of(ticket(NEWS_KEY, ANN, SESSION, 500, 1500))
        told = run(*KNOWN, show(1000, MAIL, message_of()), show(1000, NEWS, other), show(1000, NEWS, other))
        self.assertEqual(told[3:], [ANN_IN, ANN_IN, [8]])

    def test_of_another_client_and_of_another_time(self):
        other = message_of(ticket(MAIL_KEY, BOB, SESSION, 500, 1500), client=BOB)
        told = run(*KNOWN, show(1000, MAIL, message_of()), show(1000, MAIL, other), show(1000, MAIL, message_of(time=999)))
        self.assertEqual(told[3:], [ANN_IN, let_in(BOB, SESSION), ANN_IN])

    def test_what_is_refused_is_not_held(self):
        bad = [message_of() + b"x", message_of(ticket(NEWS_KEY, ANN, SESSION, 500, 1500)),
               message_of(ticket(MAIL_KEY, ANN, SESSION, 500, 1000)), message_of(ticket(MAIL_KEY, BOB, SESSION, 500, 1500))]
        told = run(*KNOWN, *[show(1000, MAIL, message) for message in bad], show(1000, b"none", message_of()),
                   show(1000, b"", message_of()), show(1301, MAIL, message_of()), show(1000, MAIL, message_of()))
        self.assertEqual(told[3:], [[1], [5], [6], [7], [3], [-2], [7], ANN_IN])


class LetGo(unittest.TestCase):
    """A call at another time lets the proof of 1000 go or not; shown at 1300 once more, it is held or not."""

    def again_after(self, *calls):
        first = show(1000, MAIL, message_of())
        return last(*KNOWN, add(HOUSE, key_of(3)), first, *calls, show(1300, MAIL, message_of()))

    def test_300_behind_it_is_held_and_301_behind_let_go(self):
        self.assertEqual(self.again_after(), [8])
        self.assertEqual(self.again_after(show(1300, MAIL, message_of(time=1300))), [8])
        self.assertEqual(self.again_after(show(1301, MAIL, message_of(time=1300))), ANN_IN)

    def test_at_an_answer_that_comes_to_8(self):
        old = ticket(key_of(3), ANN, SESSION, 500, 1500)
        for now, due in ((1300, [8]), (1301, ANN_IN)):
            more = answer(now, more_asked(old, proof(SESSION, ANN, 1300), MAIL, 1, 1))
            self.assertEqual(self.again_after(more), due)

    def test_at_a_call_that_8_refuses(self):
        tell = message_of(time=1001)
        self.assertEqual(self.again_after(show(1001, MAIL, tell), show(1300, MAIL, tell)), [8])
        self.assertEqual(self.again_after(show(1001, MAIL, tell), show(1301, MAIL, tell)), ANN_IN)

    def test_not_at_a_call_that_does_not_come_to_8(self):
        old = ticket(key_of(3), ANN, SESSION, 500, 1500)
        for call in (answer(1301, asked(MAIL, MAIL, 1, 1)), answer(1301, b""), add(ANN, key_of(1)),
                     answer(1301, more_asked(old, proof(SESSION, BOB, 1301), MAIL, 1, 1)),
                     show(1301, MAIL, message_of()), show(1301, MAIL, b""), show(1301, NEWS, message_of(time=1301)),
                     show(1301, b"none", message_of(time=1301)), show(1301, b"", message_of(time=1301)),
                     show(1600, MAIL, message_of(time=1600))):
            self.assertEqual(self.again_after(call), [8])


class TooMany(unittest.TestCase):
    def full_house(self, count):
        """A house to which that many proofs, all of other times, were shown at 1000."""
        house = House()
        house.make_known(1, list(MAIL), list(MAIL_KEY))
        house.make_known(1, list(NEWS), list(NEWS_KEY))
        for number in range(count):
            service, key = ((MAIL, MAIL_KEY), (NEWS, NEWS_KEY))[number % 2]
            message = message_of(ticket(key, ANN, SESSION, 500, 1500), time=701 + number // 2)
            self.assertEqual(house.show(1000, list(service), list(message)), ANN_IN)
        return house

    def test_the_1024th_and_the_1025th(self):
        house = self.full_house(1023)
        self.assertEqual(house.show(1000, list(MAIL), list(message_of(time=1300))), ANN_IN)
        self.assertEqual(house.show(1000, list(MAIL), list(message_of(time=1299))), [10])
        self.assertEqual(house.show(1000, list(MAIL), list(message_of(time=701))), [8])
        self.assertEqual(house.show(1000, list(MAIL), list(message_of(time=1301))), [7])
        # What was refused is not held, and at 1002 both proofs of 701 are let go.
        self.assertEqual(house.show(1001, list(MAIL), list(message_of(time=1299))), [10])
        self.assertEqual(house.show(1002, list(MAIL), list(message_of(time=1299))), ANN_IN)
        self.assertEqual(house.show(1002, list(MAIL), list(message_of(time=1298))), ANN_IN)
        self.assertEqual(house.show(1002, list(MAIL), list(message_of(time=1297))), [10])
        house.begin()
        house.make_known(1, list(MAIL), list(MAIL_KEY))
        self.assertEqual(house.show(1002, list(MAIL), list(message_of(time=1297))), ANN_IN)


if __name__ == "__main__":
    unittest.main()
