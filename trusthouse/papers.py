"""Papers: what an asker makes and opens by themselves, without a house."""

from trusthouse.messages import ASKED, LONGEST_MESSAGE, LONGEST_TICKET, MORE_ASKED, SHOWN
from trusthouse.messages import is_name, name_piece, read_given, read_told, showing_piece, times_of, wanted_piece


def tk_ask(nonce, life, client, service):
    """How many bytes the message has, then these; or -2 where a name is none."""
    if not is_name(client) or not is_name(service):
        return [-2]
    message = [ASKED] + name_piece(client) + wanted_piece(nonce, life, service)
    return [len(message)] + message


def tk_open(nonce, key, message, service):
    """How many bytes, then key, start, end and ticket; or -2 or -1, alone."""
    if len(message) > LONGEST_MESSAGE or not is_name(service):
        return [-2]
    given = read_given(message)
    if given is None:
        return [-1]
    told = read_told(key, given.told)
    if told is None or told.service != service or told.nonce != nonce:
        return [-1]
    opened = told.key + times_of(told) + given.ticket
    return [len(opened)] + opened


def tk_want(now, nonce, life, key, ticket, client, service):
    """How many bytes the message has, then these; or -2 where a name is none or the ticket is too long."""
    if len(ticket) > LONGEST_TICKET or not is_name(client) or not is_name(service):
        return [-2]
    message = [MORE_ASKED] + showing_piece(now, key, ticket, client) + wanted_piece(nonce, life, service)
    return [len(message)] + message


def tk_prove(now, key, ticket, client):
    """How many bytes the message has, then these; or -2 where the name is none or the ticket is too long."""
    if len(ticket) > LONGEST_TICKET or not is_name(client):
        return [-2]
    message = [SHOWN] + showing_piece(now, key, ticket, client)
    return [len(message)] + message
