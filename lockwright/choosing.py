"""Which of several rows of clauses can be met together."""

from lockwright.engine import Engine


class Chooser:
    """Clauses that always hold, and numbered rows of clauses, of which those hold that are chosen."""

    def __init__(self, many, always, rows):
        self.many = many
        # Behind the atoms each row has a place of its own: what is preferred there is that the row is not chosen.
        self.engine = Engine(many + len(rows))
        for codes in always:
            self.engine.add(list(codes))
        for at, row in enumerate(rows):
            for codes in row:
                self.engine.add([*codes, 2 * (many + at)])

    def is_met(self, lot):
        """Whether something fits with all rows of these numbers."""
        codes = [2 * (self.many + at) + 1 for at in lot]
        same = 0
        for code, other in zip(codes, self.engine.assumed):
            if code != other:
                break
            same += 1
        self.engine.drop(same)
        self.engine.assume(codes[same:])
        return self.engine.search()

    def blamed(self):
        """The numbers of rows that could not be met the last time, and not even without the others."""
        return [(code >> 1) - self.many for code in self.engine.clauses[self.engine.failed]]


def least_unmet(chooser, lot):
    """A least one of the lots within one that cannot be met."""
    left = list(lot)
    sure = []
    while left:
        last = left.pop()
        if chooser.is_met(left + sure):
            sure.append(last)
        else:
            blamed = chooser.blamed()
            left = [at for at in left if at in blamed]
    return sorted(sure)
