"""Point 7: best."""

import unittest

from calling import NONE, act, begin, behind, best, can, clause, do, go, last, owed
from samples import FAR_BEYOND, JUST_BEYOND, JUST_BEYOND_AND_CANNOT, JUST_WITHIN_AND_CANNOT


class Best(unittest.TestCase):
    def test_none_where_nothing_is_owed(self):
        for n in (1, 2, 3, 4):
            for turn in range(n):
                moves = [do(p, NONE) for p in range(turn)]
                self.assertEqual(last(begin(n), go(), *moves, best()), [NONE], (n, turn))

    def test_none_where_there_is_time(self):
        for n in (1, 2):
            setup = [begin(n), clause(act=0, days=2), go()]
            self.assertEqual(last(*setup, best()), [NONE], n)

    def test_none_where_something_must_not_be_done(self):
        self.assertEqual(last(begin(1), clause(must=0, act=0, days=7), go(), best()), [NONE])

    def test_an_act_on_its_last_day(self):
        for n in (1, 2):
            for a in range(16):
                self.assertEqual(last(begin(n), clause(act=a, days=1), go(), best()), [a], (n, a))

    def test_the_first_of_several(self):
        for first, second in ((4, 7), (7, 4)):
            setup = [begin(1), clause(act=first, days=2), clause(act=second, days=2), go()]
            self.assertEqual(behind(setup, best(), do(0, 4), best()), [[4], [0], [7]])
            self.assertEqual(behind(setup, best(), do(0, 7), best()), [[4], [0], [4]])

    def test_the_first_of_several_is_passed_by_if_it_breaks(self):
        musts = [clause(act=4, days=2), clause(act=7, days=2)]
        self.assertEqual(last(begin(1), *musts, clause(must=0, act=4, days=1), go(), best()), [7])

    def test_the_first_of_several_is_passed_by_if_it_calls_up_too_much(self):
        musts = [clause(act=4, days=3), clause(act=7, days=3), clause(act=9, days=3)]
        # Behind act 4, act 11 must be done by the day behind it.
        self.assertEqual(last(begin(1), *musts, clause(when=1, what=4, act=11, days=2), go(), best()), [7])
        self.assertEqual(last(begin(1), *musts, clause(when=1, what=8, act=11, days=2), go(), best()), [4])

    def test_what_breaks_nothing_now_but_leads_to_it(self):
        setup = [begin(2), clause(act=4, days=2), clause(act=7, days=1), go()]
        self.assertEqual(behind(setup, best(), do(0, 7), do(1, NONE), best()), [[7], [0], [0], [4]])

    def test_what_must_be_done_ahead_of_time(self):
        clauses = [clause(act=9, days=3), clause(act=8, days=3), clause(act=7, days=3), clause(act=6, days=4)]
        setup = [begin(1), *clauses, go()]
        self.assertEqual(
            behind(setup, best(), do(0, 6), can(0), best(), go(), do(0, 7), best(), do(0, 8), best(), do(0, 9), best()),
            [[7], [0], [0], [-33], [0], [0], [8], [0], [9], [0], [6]],
        )

    def test_their_own_acts_at_their_turn(self):
        acts = [act(5, 1), act(3, 1), act(7, 2)]
        musts = [clause(who=1, act=5), clause(who=2, act=7), clause(who=0, act=9)]
        setup = [begin(3), *acts, *musts, go()]
        self.assertEqual(
            behind(setup, best(), do(0, 9), best(), do(1, 5), best(), do(2, 7), best()),
            [[9], [0], [5], [0], [7], [0], [NONE]],
        )

    def test_others_who_cannot_do_not_matter(self):
        setup = [begin(2), act(3, 1), act(4, 1), clause(who=1, act=3), clause(who=1, act=4), clause(act=9), go()]
        self.assertEqual(behind(setup, can(1), best(), do(0, 9), best()), [[0], [9], [0], [-33]])

    def test_with_just_300_places(self):
        self.assertEqual(last(*JUST_BEYOND.setup(), do(0, NONE), best()), [NONE])


class BestRefused(unittest.TestCase):
    def test_not_gone_off(self):
        self.assertEqual(last(begin(1), best()), [-16])
        self.assertEqual(last(begin(1), clause(), clause(act=1), best()), [-16])
        self.assertEqual(last(begin(1), go(), begin(1), best()), [-16])

    def test_not_gone_off_comes_ahead_of_too_many(self):
        self.assertEqual(last(*FAR_BEYOND.setup()[:-1], best()), [-16])

    def test_too_many(self):
        self.assertEqual(last(*FAR_BEYOND.setup(), best()), [-75])
        self.assertEqual(last(*JUST_BEYOND.setup(), best()), [-75])

    def test_too_many_comes_ahead_of_who_cannot(self):
        self.assertEqual(last(*JUST_BEYOND_AND_CANNOT.setup(), best()), [-75])

    def test_who_cannot(self):
        setup = [begin(1), clause(act=3), clause(act=4), go()]
        self.assertEqual(behind(setup, can(0), best()), [[0], [-33]])

    def test_who_cannot_with_just_300_places(self):
        self.assertEqual(last(*JUST_WITHIN_AND_CANNOT.setup(), best()), [-33])

    def test_who_cannot_by_what_another_may_do(self):
        setup = [begin(2), act(5, 1), clause(when=1, what=5, act=3), go()]
        self.assertEqual(behind(setup, best(), do(0, NONE), best()), [[-33], [0], [NONE]])

    def test_it_changes_nothing(self):
        setup = [begin(2), clause(act=4, days=1), clause(act=7, days=2), go()]
        self.assertEqual(
            behind(setup, owed(), best(), best(), owed(), do(0, 7), owed(), best(), can(0), owed(), do(1, NONE)),
            [[0, 1, 2], [4], [4], [0, 1, 2], [0], [1, 1, 0], [NONE], [0], [1, 1, 0], [1, 0]],
        )


if __name__ == "__main__":
    unittest.main()
