"""The document's words of an act that's done and a day that's over, followed plainly, for tests to compare with.

A clause is (when, what, must, who, act, days); a place is (whose turn it is, days left of each clause ..).
"""

from calling import NONE


def first_place(clauses):
    return (0, *[days if when == 0 else 0 for when, what, must, who, act, days in clauses])


def moves(owners, p):
    return [NONE] + [a for a in range(16) if owners[a] == p]


def end(clauses, owed, ended, kept_if):
    """Ends the clauses: who broke something, and what happened, as (when, what)."""
    broke, events = set(), set()
    for number in ended:
        del owed[number]
        if clauses[number][2] == kept_if:
            events.add((2, number))
        else:
            events.add((3, number))
            broke.add(clauses[number][3])
    return broke, events


def call_up(clauses, owed, events):
    for number, (when, what, must, who, act, days) in enumerate(clauses):
        if (when, what) in events and number not in owed:
            owed[number] = days


def step(n, clauses, place, a):
    """The place that a move leads to, and who broke something, rising."""
    turn = place[0]
    owed = {number: days for number, days in enumerate(place[1:]) if days > 0}
    broke = set()
    if a != NONE:
        broke, events = end(clauses, owed, [number for number in owed if clauses[number][4] == a], 1)
        call_up(clauses, owed, events | {(1, a)})
    if turn == n - 1:
        owed = {number: days - 1 for number, days in owed.items()}
        more, events = end(clauses, owed, [number for number in owed if owed[number] == 0], 0)
        call_up(clauses, owed, events)
        broke = broke | more
    return ((turn + 1) % n, *[owed.get(number, 0) for number in range(len(clauses))]), sorted(broke)


def places(n, owners, clauses, start):
    """Every place that can be come to from start, itself among them."""
    found, waiting = {start}, [start]
    while waiting:
        place = waiting.pop()
        for a in moves(owners, place[0]):
            after = step(n, clauses, place, a)[0]
            if after not in found:
                found.add(after)
                waiting.append(after)
    return found
