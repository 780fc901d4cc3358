"""What an agreement is made of: its bounds, what its numbers stand for, and a clause."""

ACT_COUNT = 16
MOST_PARTIES = 4
MOST_CLAUSES = 8
MOST_DAYS = 7

MUST = 1

AT_THE_BEGINNING = 0
BY_AN_ACT = 1
BY_A_KEPT_CLAUSE = 2
BY_A_BROKEN_CLAUSE = 3

NO_ACT = 255


# The act that a clause names is its deed here, for act is a method of the agreement.
class Clause:
    def __init__(self, when, what, must, who, deed, days):
        self.when = when
        self.what = what
        self.must = must
        self.who = who
        self.deed = deed
        self.days = days
