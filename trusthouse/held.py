"""The proofs that were let in, held so that nothing is let in twice."""

from trusthouse.refusals import SHOWN_BEFORE, TOO_MANY_HELD

WINDOW = 300
MOST_HELD = 1024


class Held:
    def __init__(self):
        # From (client, time, service) to True.
        self.proofs = {}

    def let_go(self, now):
        kept = {}
        for proof in self.proofs:
            if now - proof[1] <= WINDOW:
                kept[proof] = True
        self.proofs = kept

    def hold(self, now, client, time, service):
        """0, and the proof is held; or why not."""
        self.let_go(now)
        proof = (tuple(client), time, tuple(service))
        if proof in self.proofs:
            return SHOWN_BEFORE
        if len(self.proofs) >= MOST_HELD:
            return TOO_MANY_HELD
        self.proofs[proof] = True
        return 0
