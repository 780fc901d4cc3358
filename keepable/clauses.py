"""The calls on one new agreement, one behind another in one list, and their answers in another."""

from keepable.agreement import Agreement
from keepable.terms import Clause

BEGIN = 0
ACT = 1
CLAUSE = 2
GO = 3
DO = 4
OWED = 5
CAN = 6

# By a call's number, how many whole numbers stand behind it.
NUMBER_COUNTS = (1, 2, 6, 0, 2, 0, 1, 0)


def answers(calls):
    agreement = Agreement()
    told = []
    start = 0
    while start < len(calls):
        call = calls[start]
        end = start + 1 + NUMBER_COUNTS[call]
        answer = answer_of(agreement, call, calls[start + 1:end])
        told.append(len(answer))
        told.extend(answer)
        start = end
    return told


def answer_of(agreement, call, numbers):
    if call == BEGIN:
        return [agreement.begin(numbers[0])]
    if call == ACT:
        return [agreement.act(numbers[0], numbers[1])]
    if call == CLAUSE:
        return [agreement.clause(clause_of(numbers))]
    if call == GO:
        return [agreement.go()]
    if call == DO:
        return agreement.do(numbers[0], numbers[1])
    if call == OWED:
        return agreement.owed()
    if call == CAN:
        return [agreement.can(numbers[0])]
    return [agreement.best()]


def clause_of(numbers):
    return Clause(numbers[0], numbers[1], numbers[2], numbers[3], numbers[4], numbers[5])
