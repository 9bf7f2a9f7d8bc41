"""Papers: what an asker makes and opens by themselves, without a house."""

from trusthouse.messages import LONGEST_MESSAGE, asked_message, is_name, read_given, read_told, times_of


def tk_ask(nonce, life, client, service):
    """How many bytes the message has, then these; or -2 where a name is none."""
    if not is_name(client) or not is_name(service):
        return [-2]
    message = asked_message(nonce, life, client, service)
    return [len(message)] + message


def tk_open(nonce, key, message, service):
    """How many bytes, then key, start, end and ticket; or -2 or -1, alone."""
    if len(message) > LONGEST_MESSAGE or not is_name(service):
        return [-2]
    given = read_given(message)
    if given is None:
        return [-1]
    told = read_told(key, given.told)
    if told is None or told.service != service or told.nonce != nonce:
        return [-1]
    opened = told.key + times_of(told) + given.ticket
    return [len(opened)] + opened
