"""Ways of writing calls and reading answers that the tests share."""

from keepable.clauses import answers

TOP = 4294967295


def begin(n):
    return [0, n]


def act(a, p):
    return [1, a, p]


def clause(when=0, what=0, must=1, who=0, act=0, days=1):
    return [2, when, what, must, who, act, days]


def go():
    return [3]


def line(*calls):
    return [number for call in calls for number in call]


def told(*calls):
    """The one number that each call answers; the counts between them are checked on the way."""
    given = answers(line(*calls))
    if given[0::2] != [1] * len(calls) or len(given) != 2 * len(calls):
        raise AssertionError(f"not one number for each of {len(calls)} calls: {given}")
    return given[1::2]
