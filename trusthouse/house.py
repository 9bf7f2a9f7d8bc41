"""The house: whom it knows, what it answers, and who is let in."""

from trusthouse.held import Held, WINDOW
from trusthouse.messages import GIVEN, LONGEST_MESSAGE, LONGEST_NAME, MORE_GIVEN, Ticket
from trusthouse.messages import is_name, name_piece, refused, ticket_piece, told_piece
from trusthouse.messages import read_asked, read_more_asked, read_proof, read_shown, read_ticket
from trusthouse.refusals import BAD_PROOF, BAD_TICKET, CLIENT_UNKNOWN, NO_LIFE, NO_MESSAGE, OUT_OF_TIME
from trusthouse.refusals import SERVICE_UNKNOWN

MOST_KNOWN = 256
HOUSE_NAME = "keys"


class Member:
    def __init__(self, key, life):
        self.key = key
        self.life = life


class House:
    def __init__(self):
        self.known = {}
        self.held = Held()

    def begin(self):
        self.known = {}
        self.held = Held()
        return [0]

    def make_known(self, life, name, key):
        if not is_name(name) or life == 0:
            return [-2]
        if self.member(name) is None and len(self.known) >= MOST_KNOWN:
            return [-5]
        self.known[tuple(name)] = Member(key, life)
        return [0]

    def member(self, name):
        """Who is known by that name, or None."""
        return self.known.get(tuple(name))

    def answer(self, now, message, fresh):
        if len(message) > LONGEST_MESSAGE:
            return [-2]
        back = self.message_back(now, message, fresh)
        return [len(back)] + back

    def message_back(self, now, message, fresh):
        asked = read_asked(message)
        if asked is not None:
            return self.give(now, asked, fresh)
        more = read_more_asked(message)
        if more is not None:
            return self.give_more(now, more, fresh)
        return refused(NO_MESSAGE)

    def give(self, now, asked, fresh):
        client = self.member(asked.client)
        if client is None:
            return refused(CLIENT_UNKNOWN)
        service = self.member(asked.service)
        if service is None:
            return refused(SERVICE_UNKNOWN)
        if asked.life == 0:
            return refused(NO_LIFE)
        end = now + min(asked.life, client.life, service.life)
        ticket = Ticket(asked.client, fresh, now, end)
        told = told_piece(ticket, asked.service, asked.nonce, client.key)
        return [GIVEN] + ticket_piece(ticket, service.key) + told

    def give_more(self, now, more, fresh):
        service = self.member(more.service)
        if service is None:
            return refused(SERVICE_UNKNOWN)
        if more.life == 0:
            return refused(NO_LIFE)
        house_name = [ord(sign) for sign in HOUSE_NAME]
        old = self.opened_ticket(house_name, more.ticket)
        if old is None:
            return refused(BAD_TICKET)
        why = self.let_in(now, old, more.proof, house_name)
        if why != 0:
            return refused(why)
        end = min(now + min(more.life, service.life), old.end)
        ticket = Ticket(old.client, fresh, now, end)
        told = told_piece(ticket, more.service, more.nonce, old.key)
        return [MORE_GIVEN] + ticket_piece(ticket, service.key) + told

    def show(self, now, name, message):
        if len(message) > LONGEST_MESSAGE or not is_name(name):
            return [-2]
        shown = read_shown(message)
        if shown is None:
            return [NO_MESSAGE]
        if self.member(name) is None:
            return [SERVICE_UNKNOWN]
        ticket = self.opened_ticket(name, shown.ticket)
        if ticket is None:
            return [BAD_TICKET]
        why = self.let_in(now, ticket, shown.proof, name)
        if why != 0:
            return [why]
        rest = [0] * (LONGEST_NAME - len(ticket.client))
        return [0] + name_piece(ticket.client) + rest + ticket.key

    def opened_ticket(self, service, sealed):
        """The ticket for that service, or None; for one that isn't known no ticket opens."""
        member = self.member(service)
        if member is None:
            return None
        return read_ticket(member.key, sealed)

    def let_in(self, now, ticket, sealed_proof, service):
        """0, and the proof is held; or why not."""
        if now < ticket.start or now >= ticket.end:
            return OUT_OF_TIME
        proof = read_proof(ticket.key, sealed_proof)
        if proof is None or proof.client != ticket.client or abs(proof.time - now) > WINDOW:
            return BAD_PROOF
        return self.held.hold(now, proof.client, proof.time, service)
