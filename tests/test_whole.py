"""What holds over the whole: can and best on every place of many agreements, held against what do tells of the moves."""

import unittest

import plainly
from calling import NONE, best, behind, can, do, owed
from samples import Sample, random_samples

MOST_PLACES = 60

BY_HAND = [
    Sample(1, [], [(0, 0, 1, 0, 3, 2), (0, 0, 1, 0, 4, 2), (0, 0, 0, 0, 4, 1)]),
    Sample(1, [], [(1, 4, 1, 0, 3, 2), (1, 3, 1, 0, 4, 2)]),
    Sample(2, [(5, 1)], [(1, 5, 1, 0, 3, 2), (3, 0, 1, 0, 4, 1)]),
    Sample(2, [(5, 1)], [(1, 5, 1, 0, 3, 2), (2, 0, 0, 0, 3, 2)]),
    Sample(2, [(5, 1)], [(0, 0, 1, 1, 5, 3), (2, 0, 1, 0, 3, 2), (3, 0, 1, 0, 4, 2)]),
    Sample(3, [(5, 1), (6, 2)], [(1, 5, 1, 0, 3, 2), (1, 6, 1, 0, 4, 2)]),
    Sample(4, [(5, 1), (6, 3)], [(1, 6, 1, 1, 5, 1), (1, 5, 0, 3, 6, 2)]),
]


class Walk:
    """All the places of an agreement, as do and owed tell them: by each, the moves that lead there from its go."""

    def __init__(self, sample):
        self.sample = sample
        self.setup = sample.setup()
        self.paths = {}
        self.ends = {}
        start = tuple(behind(self.setup, owed())[0])
        self.paths[start] = []
        waiting = [start]
        while waiting:
            place = waiting.pop(0)
            self.ends[place] = self.ends_from(place)
            for broke, after, move in self.ends[place].values():
                if after not in self.paths:
                    self.paths[after] = self.paths[place] + [move]
                    waiting.append(after)
            if len(self.paths) > MOST_PLACES:
                raise AssertionError(f"more than {MOST_PLACES} places: {vars(sample)}")

    def ends_from(self, place):
        ends = {}
        for a in plainly.moves(self.sample.owners, place[0]):
            move = do(place[0], a)
            told, after = behind(self.setup + self.paths[place], move, owed())
            ends[a] = (told[1:], tuple(after), move)
        return ends

    def asked(self, place):
        """What can tells of each party at a place, and what best tells; what owed tells stays as it was."""
        cans = [can(p) for p in range(self.sample.n)]
        given = behind(self.setup + self.paths[place], *cans, best(), owed())
        if tuple(given[-1]) != place:
            raise AssertionError(f"{place} has become {given[-1]}")
        return [answer[0] for answer in given[:-2]], given[-2][0]

    def forced(self, p):
        """The places from which p breaks something within some number of moves, whatever p does."""
        lost = set()
        while True:
            more = {place for place in self.ends if self.is_lost(place, p, lost)}
            if more == lost:
                return lost
            lost = more

    def is_lost(self, place, p, lost):
        bad = [p in broke or after in lost for broke, after, move in self.ends[place].values()]
        return all(bad) if place[0] == p else any(bad)


def small(sample):
    start = plainly.first_place(sample.clauses)
    return len(plainly.places(sample.n, sample.owners, sample.clauses, start)) <= MOST_PLACES


WALKS = []


def setUpModule():
    drawn = random_samples(23, 160, most_clauses=5, most_days=2) + random_samples(29, 120, most_clauses=3, most_days=3)
    for sample in BY_HAND + [sample for sample in drawn if small(sample)]:
        walk = Walk(sample)
        WALKS.append((walk, {place: walk.asked(place) for place in walk.paths}))


class Whole(unittest.TestCase):
    def test_there_is_enough_of_each_kind(self):
        asked = [(place, told) for walk, answers in WALKS for place, told in answers.items()]
        self.assertGreater(len([place for place, (cans, act) in asked if cans[place[0]] == 1 and act != NONE]), 20)
        self.assertGreater(len([place for place, (cans, act) in asked if act == -33]), 20)
        self.assertGreater(len([place for place, (cans, act) in asked if 0 in cans and 1 in cans]), 20)

    def test_told_0_the_others_can_bring_it_about(self):
        for walk, answers in WALKS:
            for p in range(walk.sample.n):
                lost = walk.forced(p)
                for place, (cans, act) in answers.items():
                    self.assertEqual(cans[p], 0 if place in lost else 1, (vars(walk.sample), place, p))

    def test_told_1_nothing_that_others_do_breaks_it(self):
        for walk, answers in WALKS:
            for place, (cans, act) in answers.items():
                for broke, after, move in walk.ends[place].values():
                    others = [p for p in range(walk.sample.n) if p != place[0] and cans[p] == 1]
                    kept = [p for p in others if p not in broke and answers[after][0][p] == 1]
                    self.assertEqual(kept, others, (vars(walk.sample), place, move))

    def test_who_does_what_is_best_breaks_nothing_and_still_can(self):
        for walk, answers in WALKS:
            for place, (cans, act) in answers.items():
                if act >= 0:
                    broke, after, move = walk.ends[place][act]
                    self.assertNotIn(place[0], broke, (vars(walk.sample), place))
                    self.assertEqual(answers[after][0][place[0]], 1, (vars(walk.sample), place))

    def test_best_is_the_first_that_would_do(self):
        for walk, answers in WALKS:
            for place, (cans, act) in answers.items():
                turn = place[0]
                would_do = [
                    a for a, (broke, after, move) in walk.ends[place].items()
                    if turn not in broke and answers[after][0][turn] == 1
                ]
                self.assertEqual(act, would_do[0] if would_do else -33, (vars(walk.sample), place))

    def test_who_can_has_a_best_act_and_who_cannot_has_none(self):
        for walk, answers in WALKS:
            for place, (cans, act) in answers.items():
                self.assertEqual(act == -33, cans[place[0]] == 0, (vars(walk.sample), place))


if __name__ == "__main__":
    unittest.main()
