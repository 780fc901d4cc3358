"""Agreements that several tests use: how many parties, who has which acts, and the clauses."""

import random

from calling import act, begin, go


class Sample:
    def __init__(self, n, given, clauses):
        self.n = n
        self.given = given
        self.clauses = clauses
        self.owners = [dict(given).get(a, 0) for a in range(16)]

    def setup(self):
        acts = [act(a, p) for a, p in self.given]
        return [begin(self.n), *acts, *[[2, *clause] for clause in self.clauses], go()]


# From its beginning 301 places can be come to, and 300 when party 0 has done nothing; all can.
JUST_BEYOND = Sample(4, [(0, 2)], [(0, 0, 0, 0, 1, 7), (1, 0, 1, 2, 0, 3), (1, 0, 0, 0, 1, 6)])

# 301 places from its beginning; party 0 can't.
JUST_BEYOND_AND_CANNOT = Sample(
    4, [], [(3, 1, 1, 0, 0, 7), (0, 0, 1, 0, 1, 2), (1, 1, 1, 0, 1, 1), (1, 2, 1, 0, 2, 5)]
)

# 300 places from its beginning; party 0 can't, the others can.
JUST_WITHIN_AND_CANNOT = Sample(
    4, [(1, 3)], [(1, 1, 1, 0, 0, 7), (3, 2, 0, 0, 0, 7), (1, 0, 1, 3, 1, 7), (0, 0, 1, 3, 1, 7)]
)

# Seven clauses that party 0 can call up one by one, and that end by time alone: far more than 300 places.
FAR_BEYOND = Sample(1, [], [(1, a, 0, 0, 15, 7) for a in range(7)])


def random_sample(source, most_parties=4, most_clauses=8, most_days=7):
    n = source.randint(1, most_parties)
    pool = source.randint(1, 16)
    given = [(a, source.randrange(n)) for a in range(pool) if source.random() < 0.7]
    sample = Sample(n, given, [])
    for number in range(source.randint(1, most_clauses)):
        when = source.randrange(4)
        what = (0, source.randrange(pool), source.randrange(most_clauses), source.randrange(most_clauses))[when]
        a = source.randrange(pool)
        days = source.randint(1, most_days)
        sample.clauses.append((when, what, source.randrange(2), sample.owners[a], a, days))
    return sample


def random_samples(seed, count, **bounds):
    source = random.Random(seed)
    return [random_sample(source, **bounds) for number in range(count)]
