"""An agreement: its parties, whose act each act is, its clauses, and what is owed since it went off."""

ACT_COUNT = 16
MOST_PARTIES = 4
MOST_CLAUSES = 8
MOST_DAYS = 7

AT_THE_BEGINNING = 0
BY_AN_ACT = 1
BY_A_BROKEN_CLAUSE = 3

DONE = 0
GONE_OFF = -16
NAMED = -17
WRONG = -22
FULL = -28


# The act that a clause names is its deed here, for act is a method of the agreement.
class Clause:
    def __init__(self, when, what, must, who, deed, days):
        self.when = when
        self.what = what
        self.must = must
        self.who = who
        self.deed = deed
        self.days = days


def what_bound(when):
    if when == AT_THE_BEGINNING:
        return 1
    if when == BY_AN_ACT:
        return ACT_COUNT
    # Any number that a clause can ever have: what may name one that is told later, or never.
    return MOST_CLAUSES


class Agreement:
    def __init__(self):
        self.parties = 0
        self.owners = []
        self.clauses = []
        self.gone = False
        # These two mean something only when it has gone off: go sets them.
        self.turn = 0
        self.left = []

    def begin(self, n):
        if n < 1 or n > MOST_PARTIES:
            return WRONG
        self.parties = n
        # Anew, for an act that was given away before could else be one of a party that is no more.
        self.owners = [0] * ACT_COUNT
        self.clauses = []
        self.gone = False
        return DONE

    def act(self, a, p):
        if self.gone:
            return GONE_OFF
        if a >= ACT_COUNT or p >= self.parties:
            return WRONG
        if self.names(a):
            return NAMED
        self.owners[a] = p
        return DONE

    def names(self, a):
        return any([clause.deed == a for clause in self.clauses])

    def clause(self, told):
        if self.gone:
            return GONE_OFF
        if not self.fits(told):
            return WRONG
        number = len(self.clauses)
        if number >= MOST_CLAUSES:
            return FULL
        self.clauses.append(told)
        return number

    def fits(self, told):
        if told.when > BY_A_BROKEN_CLAUSE or told.what >= what_bound(told.when):
            return False
        if told.who >= self.parties:
            return False
        if told.deed >= ACT_COUNT or self.owners[told.deed] != told.who:
            return False
        return told.days >= 1 and told.days <= MOST_DAYS

    def go(self):
        self.gone = True
        self.turn = 0
        self.left = [clause.days if clause.when == AT_THE_BEGINNING else 0 for clause in self.clauses]
        return DONE
