"""The search: atoms are decided in their order, what clauses bring is brought, and each failure is learnt from.

A code is twice the place of an atom for its preferred literal, and one more for the other one. Clauses are lists of
codes, numbered as they come. The chain of a learnt clause tells how it is joined: pairs (code, number), the first one
of the clause to begin with, each later one of a code that falls away and of the clause that is joined for this.
"""

from lockwright.blame import NOTHING, Blame


def spare_of(truth, codes):
    """Where a clause has a code behind its first two that is not wrong, 0 if it has none."""
    for at in range(2, len(codes)):
        if truth[codes[at]] >= 0:
            return at
    return 0


class Engine:
    """Clauses over so many atoms, and what is decided, assumed and learnt so far."""

    def __init__(self, many):
        self.many = many
        self.clauses = []
        self.chains = []
        # By the code that becomes wrong: what clauses of two bring then, and which longer ones are to be looked at.
        self.pairs = [[] for _ in range(2 * many)]
        self.watching = [[] for _ in range(2 * many)]
        # By code: 1 for what is so, -1 for what is not, 0 for what is not yet told.
        self.truth = [0] * (2 * many)
        self.reasons = [NOTHING] * many
        self.levels = [0] * many
        self.spots = [0] * many
        self.trail = []
        self.brought = 0
        # By level: how long the trail was ahead of it, and the first place that may not yet be told.
        self.starts = []
        self.assumed = []
        self.learnt = []
        self.failed = NOTHING
        self.refuted = NOTHING

    def keep(self, codes, chain):
        """Numbers a clause."""
        self.clauses.append(codes)
        self.chains.append(chain)
        return len(self.clauses) - 1

    def add(self, codes):
        """Takes a clause, ahead of all searching; its number."""
        number = self.keep(codes, ())
        self.hang(number)
        if len(codes) == 1:
            self.settle(number)
        elif not codes:
            self.refuted = number
        return number

    def hang(self, number):
        """Has a clause looked at when one of its first two codes becomes wrong."""
        codes = self.clauses[number]
        if len(codes) == 2:
            one, other = codes
            self.pairs[one].append((other, number))
            self.pairs[other].append((one, number))
        elif len(codes) > 2:
            self.watching[codes[0]].append(number)
            self.watching[codes[1]].append(number)

    def settle(self, number):
        """Brings the code of a clause of one, ahead of all levels."""
        code = self.clauses[number][0]
        if self.truth[code] == 0:
            self.bring(code, number)
        elif self.truth[code] < 0 and self.refuted == NOTHING:
            self.refuted = self.cleared(NOTHING, number)

    def cleared(self, code, number):
        """Learns what is left of a clause, of whose codes all but this one are wrong ahead of all levels."""
        chain = [(NOTHING, number)]
        for other in self.clauses[number]:
            if other != code:
                chain.append((other, self.reasons[other >> 1]))
        return self.keep([code] if code != NOTHING else [], chain)

    def bring(self, code, number):
        """Makes a code so, because of a clause all other codes of which are wrong."""
        # Ahead of all levels each code gets a clause of its own, so that learnt clauses need not name it.
        if not self.starts and len(self.clauses[number]) > 1:
            number = self.cleared(code, number)
        self.tell(code, number)

    def tell(self, code, reason):
        """Makes a code so."""
        place = code >> 1
        self.truth[code] = 1
        self.truth[code ^ 1] = -1
        self.reasons[place] = reason
        self.levels[place] = len(self.starts)
        self.spots[place] = len(self.trail)
        self.trail.append(code)

    def enter(self, free):
        """Begins a level; all places ahead of a free one are told."""
        self.starts.append((len(self.trail), free))

    def retreat(self, level):
        """Takes back all levels behind this one."""
        if len(self.starts) <= level:
            return
        end = self.starts[level][0]
        for code in self.trail[end:]:
            self.truth[code] = 0
            self.truth[code ^ 1] = 0
        del self.trail[end:]
        del self.starts[level:]
        self.brought = end

    def bring_all(self):
        """Brings all that clauses bring; the number of the first that is wrong then, or NOTHING."""
        while self.brought < len(self.trail):
            wrong = self.trail[self.brought] ^ 1
            self.brought += 1
            number = self.look_at_pairs(wrong)
            if number == NOTHING:
                number = self.look_at_longer(wrong)
            if number != NOTHING:
                return number
        return NOTHING

    def look_at_pairs(self, wrong):
        """Looks at the clauses of two in which a code became wrong; the number of one that is wrong, or NOTHING."""
        truth = self.truth
        for other, number in self.pairs[wrong]:
            if truth[other] < 0:
                return number
            if truth[other] == 0:
                self.bring(other, number)
        return NOTHING

    def look_at_longer(self, wrong):
        """Looks at the longer clauses in which a code became wrong; the number of one that is wrong, or NOTHING."""
        truth = self.truth
        rows = self.watching[wrong]
        kept = []
        self.watching[wrong] = kept
        for at, number in enumerate(rows):
            codes = self.clauses[number]
            if codes[0] == wrong:
                codes[0] = codes[1]
                codes[1] = wrong
            spare = 0
            if truth[codes[0]] <= 0:
                spare = spare_of(truth, codes)
            if spare > 0:
                codes[1] = codes[spare]
                codes[spare] = wrong
                self.watching[codes[1]].append(number)
                continue
            kept.append(number)
            if truth[codes[0]] < 0:
                kept.extend(rows[at + 1:])
                return number
            if truth[codes[0]] == 0:
                self.bring(codes[0], number)
        return NOTHING

    def learn_from(self, number):
        """Learns from a clause that is wrong, and goes back to where what is learnt brings something."""
        codes, chain = Blame(self).told_of(number)
        level = 0
        if len(codes) > 1:
            level = self.levels[codes[1] >> 1]
        learnt = self.keep(codes, chain)
        self.learnt.append(learnt)
        self.hang(learnt)
        self.retreat(level)
        self.bring(codes[0], learnt)

    def unwind(self, code, bound):
        """The number of a clause that brings a code that is so from what was decided, or from places up to a bound."""
        number = self.reasons[code >> 1]
        seen = {other >> 1: True for other in self.clauses[number]}
        codes = [code]
        chain = [(NOTHING, number)]
        for at in range(self.spots[code >> 1] - 1, -1, -1):
            other = self.trail[at]
            place = other >> 1
            if place not in seen:
                continue
            reason = self.reasons[place]
            if reason == NOTHING or place <= bound:
                codes.append(other ^ 1)
                continue
            chain.append((other ^ 1, reason))
            for each in self.clauses[reason]:
                seen[each >> 1] = True
        if len(chain) == 1:
            return number
        return self.keep(codes, chain)

    def assume(self, codes):
        """Assumes codes of unlike places behind what is assumed."""
        self.retreat(len(self.assumed))
        self.assumed.extend(codes)

    def drop(self, many):
        """Assumes no more than the first so many codes."""
        self.retreat(many)
        del self.assumed[many:]

    def is_brought(self, code, level):
        """Whether a code is so because of what was decided or assumed up to a level."""
        return self.truth[code] > 0 and self.levels[code >> 1] <= level

    def free(self):
        """The first place that may not yet be told."""
        if not self.starts:
            return 0
        return self.starts[-1][1]

    def enter_assumed(self):
        """Begins the level of the next assumed code; False, with the clause that tells so as failed, if it is wrong."""
        code = self.assumed[len(self.starts)]
        if self.truth[code] < 0:
            self.failed = self.unwind(code ^ 1, NOTHING)
            return False
        self.enter(self.free())
        if self.truth[code] == 0:
            self.tell(code, NOTHING)
        return True

    def decide(self):
        """Decides the first place that is not told as it is preferred; whether there was one."""
        for place in range(self.free(), self.many):
            if self.truth[2 * place] == 0:
                self.enter(place + 1)
                self.tell(2 * place, NOTHING)
                return True
        return False

    def search(self):
        """Whether something fits with what is assumed: then all is told, as in the first stand that does.

        What is decided is always the first place that is left, and as it is preferred: so a place that is told
        otherwise is told so because of places ahead of it. If nothing fits, failed is the number of a clause that tells
        so: all its codes are wrong where all is so that is assumed.
        """
        while self.refuted == NOTHING:
            number = self.bring_all()
            if number == NOTHING:
                if len(self.starts) < len(self.assumed):
                    if not self.enter_assumed():
                        return False
                elif not self.decide():
                    return True
            elif self.starts:
                self.learn_from(number)
            else:
                self.refuted = self.cleared(NOTHING, number)
        self.failed = self.refuted
        return False
