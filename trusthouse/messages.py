"""Messages: what each kind is made of, and how it is read."""

from trusthouse.octets import number_of, octets_of
from trusthouse.sealing import seal, unseal

ASKED = 1
GIVEN = 2
MORE_ASKED = 3
MORE_GIVEN = 4
SHOWN = 5
REFUSED = 9

LONGEST_MESSAGE = 512
LONGEST_NAME = 32
LONGEST_TICKET = 200


class Asked:
    def __init__(self, client, service, nonce, life):
        self.client = client
        self.service = service
        self.nonce = nonce
        self.life = life


class MoreAsked:
    def __init__(self, ticket, proof, service, nonce, life):
        self.ticket = ticket
        self.proof = proof
        self.service = service
        self.nonce = nonce
        self.life = life


class Shown:
    def __init__(self, ticket, proof):
        self.ticket = ticket
        self.proof = proof


class Ticket:
    def __init__(self, client, key, start, end):
        self.client = client
        self.key = key
        self.start = start
        self.end = end


class Proof:
    def __init__(self, client, time):
        self.client = client
        self.time = time


class Given:
    def __init__(self, ticket, told):
        self.ticket = ticket
        self.told = told


class Told:
    """What the asker is told of the ticket."""

    def __init__(self, key, service, nonce, start, end):
        self.key = key
        self.service = service
        self.nonce = nonce
        self.start = start
        self.end = end


class Reader:
    """Takes piece behind piece from a row; whether all were there as told is seen at the end."""

    def __init__(self, row):
        self.row = row
        self.at = 0
        self.well = True

    def take(self, size):
        piece = self.row[self.at:self.at + size]
        # Behind a piece that was not wholly there, `at` is beyond the row's end for good.
        self.at = self.at + size
        return piece

    def take_number(self, size):
        return number_of(self.take(size))

    def take_name(self):
        name = self.take(self.take_number(1))
        if not is_name(name):
            self.well = False
        return name

    def take_sealed(self):
        return self.take(self.take_number(2))

    def ended_well(self):
        return self.well and self.at == len(self.row)


def is_name(row):
    return 1 <= len(row) <= LONGEST_NAME and all([is_name_sign(octet) for octet in row])


def is_name_sign(octet):
    if ord("a") <= octet <= ord("z") or ord("0") <= octet <= ord("9"):
        return True
    return octet == ord(".") or octet == ord("-")


def read_asked(message):
    """What is asked, or None where the message is none such."""
    reader = Reader(message)
    kind = reader.take_number(1)
    client = reader.take_name()
    service = reader.take_name()
    nonce = reader.take_number(8)
    life = reader.take_number(4)
    if kind != ASKED or not reader.ended_well():
        return None
    return Asked(client, service, nonce, life)


def read_more_asked(message):
    """What is more asked, or None where the message is none such."""
    reader = Reader(message)
    kind = reader.take_number(1)
    ticket = reader.take_sealed()
    proof = reader.take_sealed()
    service = reader.take_name()
    nonce = reader.take_number(8)
    life = reader.take_number(4)
    if kind != MORE_ASKED or not reader.ended_well():
        return None
    return MoreAsked(ticket, proof, service, nonce, life)


def read_shown(message):
    """What is shown, or None where the message is none such."""
    reader = Reader(message)
    kind = reader.take_number(1)
    ticket = reader.take_sealed()
    proof = reader.take_sealed()
    if kind != SHOWN or not reader.ended_well():
        return None
    return Shown(ticket, proof)


def read_given(message):
    """What is given or more given, or None where the message is neither."""
    reader = Reader(message)
    kind = reader.take_number(1)
    ticket = reader.take_sealed()
    told = reader.take_sealed()
    if kind not in (GIVEN, MORE_GIVEN) or not reader.ended_well():
        return None
    return Given(ticket, told)


def read_ticket(key, sealed):
    """The ticket within, or None where it doesn't open with the key or isn't one."""
    text = unseal(key, sealed)
    if text is None:
        return None
    reader = Reader(text)
    client = reader.take_name()
    session_key = reader.take(16)
    start = reader.take_number(8)
    end = reader.take_number(8)
    if not reader.ended_well():
        return None
    return Ticket(client, session_key, start, end)


def read_proof(key, sealed):
    """The proof within, or None where it doesn't open with the key or isn't one."""
    text = unseal(key, sealed)
    if text is None:
        return None
    reader = Reader(text)
    client = reader.take_name()
    time = reader.take_number(8)
    if not reader.ended_well():
        return None
    return Proof(client, time)


def read_told(key, sealed):
    """What is told of a ticket, or None where it doesn't open with the key or isn't so."""
    text = unseal(key, sealed)
    if text is None:
        return None
    reader = Reader(text)
    session_key = reader.take(16)
    service = reader.take_name()
    nonce = reader.take_number(8)
    start = reader.take_number(8)
    end = reader.take_number(8)
    if not reader.ended_well():
        return None
    return Told(session_key, service, nonce, start, end)


def name_piece(name):
    return [len(name)] + name


def counted_piece(row):
    return octets_of(len(row), 2) + row


def sealed_piece(key, text):
    return counted_piece(seal(key, text))


def times_of(ticket):
    """Start and end, of a ticket or of what is told of one."""
    return octets_of(ticket.start, 8) + octets_of(ticket.end, 8)


def ticket_piece(ticket, service_key):
    return sealed_piece(service_key, name_piece(ticket.client) + ticket.key + times_of(ticket))


def told_piece(ticket, service, nonce, asker_key):
    """What the asker, who can't open the ticket, is told of it."""
    text = ticket.key + name_piece(service) + octets_of(nonce, 8) + times_of(ticket)
    return sealed_piece(asker_key, text)


def wanted_piece(nonce, life, service):
    """What is wanted, as it ends what is asked and what is more asked."""
    return name_piece(service) + octets_of(nonce, 8) + octets_of(life, 4)


def showing_piece(now, key, ticket, client):
    """The ticket as it is, and a proof, with the ticket's key, of its client."""
    proof = sealed_piece(key, name_piece(client) + octets_of(now, 8))
    return counted_piece(ticket) + proof


def refused(why):
    return [REFUSED, why]
