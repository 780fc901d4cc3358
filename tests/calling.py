"""Ways of writing calls and reading answers that the tests share."""

from keepable.clauses import answers

TOP = 4294967295
NONE = 255


def begin(n):
    return [0, n]


def act(a, p):
    return [1, a, p]


def clause(when=0, what=0, must=1, who=0, act=0, days=1):
    return [2, when, what, must, who, act, days]


def go():
    return [3]


def do(p, a):
    return [4, p, a]


def owed():
    return [5]


def can(p):
    return [6, p]


def best():
    return [7]


def line(*calls):
    return [number for call in calls for number in call]


def told(*calls):
    """The one number that each call answers; the counts between them are checked on the way."""
    given = answers(line(*calls))
    if given[0::2] != [1] * len(calls) or len(given) != 2 * len(calls):
        raise AssertionError(f"not one number for each of {len(calls)} calls: {given}")
    return given[1::2]


def each(*calls):
    """What each call answers, as one list for each; that the answers end where the calls do is checked on the way."""
    given = answers(line(*calls))
    found = []
    start = 0
    while start < len(given):
        end = start + 1 + given[start]
        found.append(given[start + 1:end])
        start = end
    if start != len(given) or len(found) != len(calls):
        raise AssertionError(f"not an answer for each of {len(calls)} calls: {given}")
    return found


def behind(setup, *calls):
    """What each of the calls answers that come behind setup, a list of calls."""
    return each(*setup, *calls)[len(setup):]


def last(*calls):
    """What the last of the calls answers."""
    return each(*calls)[-1]
