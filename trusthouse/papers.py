"""Papers: what an asker makes by themselves, without a house."""

from trusthouse.messages import asked_message, is_name


def tk_ask(nonce, life, client, service):
    """How many bytes the message has, then these; or -2 where a name is none."""
    if not is_name(client) or not is_name(service):
        return [-2]
    message = asked_message(nonce, life, client, service)
    return [len(message)] + message
