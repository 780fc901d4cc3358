"""The course of an agreement that has gone off: from each place, what each move brings."""

from keepable.terms import (
    ACT_COUNT, AT_THE_BEGINNING, BY_A_BROKEN_CLAUSE, BY_A_KEPT_CLAUSE, BY_AN_ACT, MUST, NO_ACT,
)


# A place is a tuple: whose turn it is, then of each clause how many days are left.
class Outcome:
    def __init__(self, deed, place, broke):
        self.deed = deed
        self.place = place
        self.broke = broke


class Course:
    def __init__(self, parties, owners, clauses):
        self.parties = parties
        self.owners = owners
        self.clauses = clauses
        # A move brings the same whenever it's made, and the same places are asked for again and again.
        self.known = {}

    def first_place(self):
        return (0,) + tuple([clause.days if clause.when == AT_THE_BEGINNING else 0 for clause in self.clauses])

    def moves(self, p):
        return [NO_ACT] + [a for a in range(ACT_COUNT) if self.owners[a] == p]

    def outcome(self, place, deed):
        left = list(place[1:])
        broken = do_act(self.clauses, left, deed)
        turn = place[0] + 1
        if turn == self.parties:
            turn = 0
            broken = broken + end_day(self.clauses, left)
        blamed = [self.clauses[number].who for number in broken]
        broke = tuple([p for p in range(self.parties) if p in blamed])
        return Outcome(deed, (turn,) + tuple(left), broke)

    def outcomes(self, place):
        if place not in self.known:
            self.known[place] = self.different_outcomes(place)
        return self.known[place]

    # Of the moves that bring the same, the first alone: no other can be the best one.
    def different_outcomes(self, place):
        found = {}
        for deed in self.moves(place[0]):
            outcome = self.outcome(place, deed)
            found.setdefault((outcome.place, outcome.broke), outcome)
        return list(found.values())


# No act and no what of an act is NO_ACT: with it, this keeps, breaks and calls up nothing.
def do_act(clauses, left, deed):
    """Changes left; answers the numbers of the clauses that are broken."""
    met = [number for number, clause in enumerate(clauses) if left[number] > 0 and clause.deed == deed]
    kept = [number for number in met if clauses[number].must == MUST]
    broken = [number for number in met if clauses[number].must != MUST]
    for number in met:
        left[number] = 0
    call_up(clauses, left, deed, kept, broken)
    return broken


def end_day(clauses, left):
    """Changes left; answers the numbers of the clauses that are broken."""
    ended = [number for number in range(len(clauses)) if left[number] == 1]
    kept = [number for number in ended if clauses[number].must != MUST]
    broken = [number for number in ended if clauses[number].must == MUST]
    for number in range(len(clauses)):
        left[number] = max(left[number] - 1, 0)
    call_up(clauses, left, NO_ACT, kept, broken)
    return broken


def call_up(clauses, left, deed, kept, broken):
    for number, clause in enumerate(clauses):
        if left[number] == 0 and is_called_up(clause, deed, kept, broken):
            left[number] = clause.days


def is_called_up(clause, deed, kept, broken):
    if clause.when == BY_AN_ACT:
        return clause.what == deed
    if clause.when == BY_A_KEPT_CLAUSE:
        return clause.what in kept
    if clause.when == BY_A_BROKEN_CLAUSE:
        return clause.what in broken
    return False
