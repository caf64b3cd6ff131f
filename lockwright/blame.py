"""What a wrong clause is blamed on: the clause that is learnt from it, and how that is joined."""

NOTHING = -1


class Blame:
    """A clause in the making: the codes that are kept, and the chain of clauses that are joined."""

    def __init__(self, engine):
        self.engine = engine
        self.chain = []
        self.seen = {}
        self.staying = []
        # Codes that are wrong ahead of all levels fall away at the end, each by a clause of its own.
        self.settled = []
        self.pending = 0

    def take_in(self, code, number):
        """Joins one more clause, by which a code falls away."""
        self.chain.append((code, number))
        level = len(self.engine.starts)
        for other in self.engine.clauses[number]:
            place = other >> 1
            if place not in self.seen:
                self.seen[place] = True
                if self.engine.levels[place] == level:
                    self.pending += 1
                elif self.engine.levels[place] > 0:
                    self.staying.append(other)
                else:
                    self.settled.append(other)

    def told_of(self, number):
        """The codes of the clause that is learnt from a wrong one, what it brings first, and its chain."""
        engine = self.engine
        self.take_in(NOTHING, number)
        at = len(engine.trail) - 1
        # The last code of the level on which all of it hangs is what was wrong there.
        while self.pending > 1 or engine.trail[at] >> 1 not in self.seen:
            code = engine.trail[at]
            at -= 1
            if code >> 1 in self.seen:
                self.pending -= 1
                self.take_in(code ^ 1, engine.reasons[code >> 1])
        self.drop_idle()
        self.chain.extend([(code, engine.reasons[code >> 1]) for code in self.settled])
        return ([engine.trail[at] ^ 1, *self.latest_first()], self.chain)

    def is_idle(self, code):
        """Whether a kept code is wrong just because other kept ones are."""
        engine = self.engine
        reason = engine.reasons[code >> 1]
        if reason == NOTHING:
            return False
        for other in engine.clauses[reason]:
            place = other >> 1
            if place not in self.seen and engine.levels[place] > 0:
                return False
        return True

    def drop_idle(self):
        """Joins away the kept codes that are idle, the last to become wrong first, so that none comes back."""
        engine = self.engine
        idle = {engine.spots[code >> 1]: code for code in self.staying if self.is_idle(code)}
        for spot in sorted(idle, reverse=True):
            self.take_in(idle[spot], engine.reasons[idle[spot] >> 1])
        self.staying = [code for code in self.staying if engine.spots[code >> 1] not in idle]

    def latest_first(self):
        """The kept codes, the one that became wrong last ahead of the others."""
        spots = self.engine.spots
        return [code for _, code in sorted([(spots[code >> 1], code) for code in self.staying], reverse=True)]
