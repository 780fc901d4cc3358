"""Point 6: can."""

import unittest

import plainly
from calling import NONE, TOP, act, begin, behind, best, can, clause, do, go, last, owed
from samples import FAR_BEYOND, JUST_BEYOND, JUST_BEYOND_AND_CANNOT, JUST_WITHIN_AND_CANNOT


def all_can(setup, n):
    """What can answers for each of n parties, behind setup."""
    return [answer[0] for answer in behind(setup, *[can(p) for p in range(n)])]


class Can(unittest.TestCase):
    def test_without_clauses_all_can(self):
        for n in (1, 2, 3, 4):
            self.assertEqual(all_can([begin(n), go()], n), [1] * n, n)

    def test_a_must_in_time(self):
        for days in range(1, 8):
            self.assertEqual(all_can([begin(2), clause(days=days), go()], 2), [1, 1], days)

    def test_a_must_whose_last_turn_has_passed(self):
        setup = [begin(2), clause(act=3, days=2), go(), do(0, NONE), do(1, NONE)]
        self.assertEqual(all_can(setup, 2), [1, 1])
        self.assertEqual(all_can([*setup, do(0, NONE)], 2), [0, 1])
        self.assertEqual(all_can([*setup, do(0, 4)], 2), [0, 1])
        self.assertEqual(all_can([*setup, do(0, 3)], 2), [1, 1])

    def test_what_is_broken_already_does_not_count(self):
        setup = [begin(1), clause(days=1), go(), do(0, NONE)]
        self.assertEqual(all_can(setup, 1), [1])

    def test_one_act_a_day(self):
        for days in range(1, 5):
            for musts in range(1, 7):
                clauses = [clause(act=a, days=days) for a in range(musts)]
                self.assertEqual(all_can([begin(1), *clauses, go()], 1), [1 if musts <= days else 0], (days, musts))

    def test_one_act_for_several_musts(self):
        self.assertEqual(all_can([begin(1), clause(act=3), clause(act=3), clause(act=3), go()], 1), [1])

    def test_each_party_for_itself(self):
        acts = [act(p, p) for p in range(4)] + [act(4 + p, p) for p in range(4)]
        for p in range(4):
            clauses = [clause(who=p, act=p), clause(who=p, act=4 + p)]
            expected = [0 if party == p else 1 for party in range(4)]
            self.assertEqual(all_can([begin(4), *acts, *clauses, go()], 4), expected, p)

    def test_at_another_ones_turn(self):
        setup = [begin(3), act(5, 1), clause(who=1, act=5, days=1), go()]
        self.assertEqual(all_can(setup, 3), [1, 1, 1])
        self.assertEqual(all_can([*setup, do(0, NONE)], 3), [1, 1, 1])
        self.assertEqual(all_can([*setup, do(0, NONE), do(1, NONE)], 3), [1, 0, 1])

    def test_what_another_can_call_up(self):
        # Party 1 may do act 5 at the day's end: of two days that leaves party 0 one turn, of one day none.
        for days, musts, expected in ((1, 1, 0), (2, 1, 1), (2, 2, 0), (3, 2, 1), (3, 3, 0)):
            clauses = [clause(when=1, what=5, act=a, days=days) for a in range(musts)]
            setup = [begin(2), act(5, 1), *clauses, go()]
            self.assertEqual(all_can(setup, 2), [expected, 1], (days, musts))

    def test_what_another_breaks_and_keeps_can_call_up_too(self):
        for when in (2, 3):
            trigger = clause(who=1, act=5, days=2)
            setup = [begin(2), act(5, 1), trigger, clause(when=when, what=0, act=3), clause(when=when, what=0, act=4)]
            self.assertEqual(all_can([*setup, go()], 2), [0, 1], when)

    def test_what_they_call_up_themselves_they_can_leave(self):
        setup = [begin(1), clause(when=1, what=5, act=3), clause(when=1, what=5, act=4), go()]
        self.assertEqual(all_can(setup, 1), [1])
        self.assertEqual(all_can([begin(1), clause(act=5), *setup[1:]], 1), [0])

    def test_what_comes_late(self):
        # Kept by time, one mustn't after another: two musts of one day come at the end of it.
        chain = [clause(must=0, who=1, act=9, days=7)]
        chain += [clause(when=2, what=number, must=0, who=1, act=9, days=7) for number in range(3)]
        musts = [clause(when=2, what=3, act=3), clause(when=2, what=3, act=4)]
        self.assertEqual(all_can([begin(2), act(9, 1), *chain, musts[0], go()], 2), [1, 1])
        self.assertEqual(all_can([begin(2), act(9, 1), *chain, *musts, go()], 2), [0, 1])

    def test_others_may_break_what_is_theirs(self):
        setup = [begin(2), act(5, 1), clause(must=0, who=1, act=5, days=7), clause(when=3, what=0, act=3), go()]
        self.assertEqual(all_can(setup, 2), [0, 1])


class CanRefused(unittest.TestCase):
    def test_not_gone_off(self):
        self.assertEqual(last(begin(1), can(0)), [-16])
        self.assertEqual(last(begin(1), clause(), can(0)), [-16])
        self.assertEqual(last(begin(1), go(), begin(1), can(0)), [-16])

    def test_party_just_within_and_just_beyond(self):
        for n in (1, 2, 3, 4):
            self.assertEqual(behind([begin(n), go()], can(n - 1), can(n)), [[1], [-22]], n)

    def test_no_such_party(self):
        for p in (4, 255, 256, 65536, TOP):
            self.assertEqual(last(begin(4), go(), can(p)), [-22], p)

    def test_not_gone_off_comes_ahead_of_wrong(self):
        self.assertEqual(last(begin(1), can(1)), [-16])
        self.assertEqual(last(begin(4), can(TOP)), [-16])

    def test_wrong_comes_ahead_of_too_many(self):
        for p in (1, TOP):
            self.assertEqual(behind(FAR_BEYOND.setup(), can(p), can(0)), [[-22], [-75]], p)

    def test_far_too_many(self):
        self.assertEqual(all_can(FAR_BEYOND.setup(), 1), [-75])


class CanPlaces(unittest.TestCase):
    def places(self, sample, *moves):
        place = plainly.first_place(sample.clauses)
        for a in moves:
            place = plainly.step(sample.n, sample.clauses, place, a)[0]
        return len(plainly.places(sample.n, sample.owners, sample.clauses, place))

    def test_just_more_than_300(self):
        self.assertEqual(self.places(JUST_BEYOND), 301)
        self.assertEqual(all_can(JUST_BEYOND.setup(), 4), [-75] * 4)

    def test_just_more_than_300_for_who_cannot(self):
        self.assertEqual(self.places(JUST_BEYOND_AND_CANNOT), 301)
        self.assertEqual(all_can(JUST_BEYOND_AND_CANNOT.setup(), 4), [-75] * 4)

    def test_just_300(self):
        self.assertEqual(self.places(JUST_BEYOND, NONE), 300)
        self.assertEqual(all_can([*JUST_BEYOND.setup(), do(0, NONE)], 4), [1, 1, 1, 1])

    def test_just_300_for_who_cannot(self):
        self.assertEqual(self.places(JUST_WITHIN_AND_CANNOT), 300)
        self.assertEqual(all_can(JUST_WITHIN_AND_CANNOT.setup(), 4), [0, 1, 1, 1])

    def test_from_here_alone(self):
        self.assertEqual(
            behind(JUST_BEYOND.setup(), can(0), do(0, NONE), can(0), go(), can(0), do(0, NONE), can(0)),
            [[-75], [0], [1], [0], [-75], [0], [1]],
        )

    def test_it_changes_nothing(self):
        setup = [begin(2), act(5, 1), clause(act=3, days=2), clause(who=1, act=5, days=1), go(), do(0, NONE)]
        self.assertEqual(
            behind(setup, owed(), can(0), can(1), can(2), owed(), best(), owed(), do(1, NONE), owed()),
            [[1, 2, 1], [1], [1], [-22], [1, 2, 1], [5], [1, 2, 1], [1, 1], [0, 1, 0]],
        )
        self.assertEqual(
            behind(FAR_BEYOND.setup(), do(0, 2), owed(), can(0), best(), owed()),
            [[0], [0, 0, 0, 6, 0, 0, 0, 0], [-75], [-75], [0, 0, 0, 6, 0, 0, 0, 0]],
        )


if __name__ == "__main__":
    unittest.main()
