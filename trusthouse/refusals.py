"""The refusals above 0: why a message is not answered as it wants."""

NO_MESSAGE = 1
CLIENT_UNKNOWN = 2
SERVICE_UNKNOWN = 3
NO_LIFE = 4
BAD_TICKET = 5
OUT_OF_TIME = 6
BAD_PROOF = 7
SHOWN_BEFORE = 8
TOO_MANY_HELD = 10
