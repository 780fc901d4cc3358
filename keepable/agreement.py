"""An agreement: its parties, whose act each act is, its clauses, and where it has come to since it went off."""

from keepable.course import Course
from keepable.keeping import first_keeping_move, lost_places, places_from
from keepable.terms import (
    ACT_COUNT, AT_THE_BEGINNING, BY_A_BROKEN_CLAUSE, BY_AN_ACT, MOST_CLAUSES, MOST_DAYS, MOST_PARTIES,
)

DONE = 0
NOT_THEIR_TURN = -1
NOT_NOW = -16
NAMED = -17
WRONG = -22
FULL = -28
CANNOT = -33
TOO_MANY = -75


def what_bound(when):
    if when == AT_THE_BEGINNING:
        return 1
    if when == BY_AN_ACT:
        return ACT_COUNT
    # Any number that a clause can ever have: what may name one that is told later, or never.
    return MOST_CLAUSES


class Agreement:
    def __init__(self):
        self.parties = 0
        self.owners = []
        self.clauses = []
        self.gone = False
        # These two mean something only when it has gone off: go sets them.
        self.course = None
        self.place = ()

    def begin(self, n):
        if n < 1 or n > MOST_PARTIES:
            return WRONG
        self.parties = n
        # Anew, for an act that was given away before could else be one of a party that is no more.
        self.owners = [0] * ACT_COUNT
        self.clauses = []
        self.gone = False
        return DONE

    def act(self, a, p):
        if self.gone:
            return NOT_NOW
        if a >= ACT_COUNT or p >= self.parties:
            return WRONG
        if self.names(a):
            return NAMED
        self.owners[a] = p
        return DONE

    def names(self, a):
        return any([clause.deed == a for clause in self.clauses])

    def clause(self, told):
        if self.gone:
            return NOT_NOW
        if not self.fits(told):
            return WRONG
        number = len(self.clauses)
        if number >= MOST_CLAUSES:
            return FULL
        self.clauses.append(told)
        return number

    def fits(self, told):
        if told.when > BY_A_BROKEN_CLAUSE or told.what >= what_bound(told.when):
            return False
        if told.who >= self.parties:
            return False
        if told.deed >= ACT_COUNT or self.owners[told.deed] != told.who:
            return False
        return told.days >= 1 and told.days <= MOST_DAYS

    def go(self):
        # Parties, acts and clauses stay as they are from a go to the next begin, and so does the course.
        if not self.gone:
            self.course = Course(self.parties, self.owners, self.clauses)
        self.gone = True
        self.place = self.course.first_place()
        return DONE

    def do(self, p, a):
        """Who broke something, with how many they are ahead of them; or a refusal alone."""
        if not self.gone:
            return [NOT_NOW]
        if p != self.place[0]:
            return [NOT_THEIR_TURN]
        if a not in self.course.moves(p):
            return [WRONG]
        outcome = self.course.outcome(self.place, a)
        self.place = outcome.place
        return [len(outcome.broke)] + list(outcome.broke)

    def owed(self):
        """Whose turn it is, and of each clause how many days are left; or a refusal alone."""
        if not self.gone:
            return [NOT_NOW]
        return list(self.place)

    def can(self, p):
        if not self.gone:
            return NOT_NOW
        if p >= self.parties:
            return WRONG
        places = places_from(self.course, self.place)
        if places is None:
            return TOO_MANY
        return 0 if self.place in lost_places(self.course, places, p) else 1

    def best(self):
        if not self.gone:
            return NOT_NOW
        places = places_from(self.course, self.place)
        if places is None:
            return TOO_MANY
        turn = self.place[0]
        lost = lost_places(self.course, places, turn)
        if self.place in lost:
            return CANNOT
        return first_keeping_move(self.course.outcomes(self.place), lost, turn)
