"""The document's corners, one by one."""

import unittest

from calling import NONE, act, begin, behind, best, can, clause, do, go, owed


class OnePartyAlone(unittest.TestCase):
    def test_each_turn_is_a_day(self):
        setup = [begin(1), clause(act=3, days=3), go()]
        self.assertEqual(
            behind(setup, do(0, NONE), owed(), do(0, 5), owed(), best(), do(0, 3), owed()),
            [[0], [0, 2], [0], [0, 1], [3], [0], [0, 0]],
        )

    def test_nobody_else_has_a_turn(self):
        self.assertEqual(behind([begin(1), go()], do(1, NONE), can(1), do(0, NONE), do(1, NONE)),
                         [[-1], [-22], [0], [-1]])

    def test_what_their_act_calls_up_is_a_day_older_at_once(self):
        setup = [begin(1), clause(when=1, what=3, act=4, days=2), go()]
        self.assertEqual(behind(setup, do(0, 3), owed(), best(), can(0)), [[0], [0, 1], [4], [1]])


class AClauseThatCallsUpItself(unittest.TestCase):
    def test_a_must_by_its_own_act(self):
        setup = [begin(2), clause(when=1, what=3, must=1, act=3, days=2), go()]
        self.assertEqual(
            behind(setup, do(0, 3), owed(), do(1, NONE), owed(), best(), do(0, 3), owed(), do(1, NONE), can(0),
                   do(0, NONE), do(1, NONE), owed()),
            [[0], [1, 2], [0], [0, 1], [3], [0], [1, 2], [0], [1], [0], [1, 0], [0, 0]],
        )

    def test_a_mustnt_by_its_own_act(self):
        setup = [begin(2), clause(when=1, what=3, must=0, act=3, days=7), go()]
        self.assertEqual(
            behind(setup, do(0, 3), owed(), do(1, NONE), owed(), can(0), best(), do(0, 3), owed()),
            [[0], [1, 7], [0], [0, 6], [1], [NONE], [1, 0], [1, 7]],
        )

    def test_by_its_being_kept_or_broken_it_never_begins(self):
        for when in (2, 3):
            for must in (0, 1):
                setup = [begin(1), clause(when=when, what=0, must=must, act=3), go()]
                self.assertEqual(behind(setup, owed(), do(0, 3), owed(), do(0, NONE), owed(), can(0), best()),
                                 [[0, 0], [0], [0, 0], [0], [0, 0], [1], [NONE]], (when, must))


class AnActThatMustBeDoneAndMustnt(unittest.TestCase):
    def clauses(self, must_days, mustnt_days):
        return [begin(1), clause(must=1, act=3, days=must_days), clause(must=0, act=3, days=mustnt_days), go()]

    def test_done_it_keeps_the_one_and_breaks_the_other(self):
        calls = [clause(when=2, what=0, act=5, days=4), clause(when=3, what=1, act=6, days=5)]
        setup = [*self.clauses(2, 2)[:-1], *calls, go()]
        self.assertEqual(behind(setup, do(0, 3), owed()), [[1, 0], [0, 0, 0, 3, 4]])

    def test_they_can_if_the_must_lasts_longer(self):
        for must_days in range(1, 8):
            for mustnt_days in range(1, 8):
                given = behind(self.clauses(must_days, mustnt_days), can(0), best())
                fits = must_days > mustnt_days
                self.assertEqual(given, [[1], [NONE]] if fits else [[0], [-33]], (must_days, mustnt_days))

    def test_the_best_is_to_wait_and_then_to_do_it(self):
        self.assertEqual(
            behind(self.clauses(3, 2), best(), do(0, NONE), best(), do(0, NONE), owed(), best(), do(0, 3), owed()),
            [[NONE], [0], [NONE], [0], [0, 1, 0], [3], [0], [0, 0, 0]],
        )


class AMustOfOneDayCalledUpByTheLastOnesAct(unittest.TestCase):
    def test_it_is_broken_at_once(self):
        setup = [begin(2), act(5, 1), clause(when=1, what=5, act=3, days=1), go()]
        self.assertEqual(
            behind(setup, can(0), can(1), do(0, 3), can(0), do(1, 5), owed()), [[0], [1], [0], [0], [1, 0], [0, 0]]
        )

    def test_their_own(self):
        setup = [begin(2), act(5, 1), act(6, 1), clause(when=1, what=5, who=1, act=6, days=1), go()]
        self.assertEqual(
            behind(setup, can(1), do(0, NONE), best(), do(1, 5), owed(), can(1)),
            [[1], [0], [NONE], [1, 1], [0, 0], [1]],
        )

    def test_its_own_act(self):
        setup = [begin(1), clause(when=1, what=3, act=3, days=1), go()]
        self.assertEqual(behind(setup, can(0), do(0, 3), owed(), can(0)), [[1], [1, 0], [0, 0], [1]])

    def test_what_it_calls_up_is_called_up(self):
        setup = [begin(1), clause(when=1, what=3, act=4, days=1), clause(when=3, what=0, act=5, days=2), go()]
        self.assertEqual(behind(setup, do(0, 3), owed()), [[1, 0], [0, 0, 2]])

    def test_of_two_days_it_is_not(self):
        setup = [begin(2), act(5, 1), clause(when=1, what=5, act=3, days=2), go()]
        self.assertEqual(behind(setup, can(0), do(0, NONE), do(1, 5), owed(), best()), [[1], [0], [0], [0, 1], [3]])


class AMustntKeptByTimeThatCallsUpAnother(unittest.TestCase):
    def test_the_other_is_owed_with_all_its_days(self):
        setup = [begin(2), clause(must=0, act=3, days=2), clause(when=2, what=0, must=1, act=3, days=1), go()]
        self.assertEqual(
            behind(setup, best(), do(0, NONE), do(1, NONE), owed(), best(), do(0, NONE), do(1, NONE), owed(), best(),
                   do(0, 3), owed()),
            [[NONE], [0], [0], [0, 1, 0], [NONE], [0], [0], [0, 0, 1], [3], [0], [1, 0, 0]],
        )

    def test_broken_it_does_not(self):
        setup = [begin(2), clause(must=0, act=3, days=2), clause(when=2, what=0, must=1, act=3, days=1), go()]
        self.assertEqual(behind(setup, do(0, 3), owed(), do(1, NONE), owed()), [[1, 0], [1, 0, 0], [0], [0, 0, 0]])

    def test_one_that_ends_with_it_is_called_up_anew(self):
        setup = [begin(1), clause(when=1, what=5, must=0, act=9, days=2), clause(when=2, what=0, must=0, act=4, days=2)]
        self.assertEqual(
            behind([*setup, go()], do(0, 5), do(0, NONE), owed(), do(0, 5), owed(), do(0, NONE), owed()),
            [[0], [0], [0, 0, 2], [0], [0, 1, 1], [0], [0, 0, 2]],
        )


class AClauseThatsCalledUpWhileItsOwed(unittest.TestCase):
    def test_nothing_changes(self):
        setup = [begin(1), clause(when=1, what=5, act=3, days=4), go()]
        self.assertEqual(
            behind(setup, do(0, 5), owed(), do(0, 5), owed(), do(0, 5), owed(), do(0, 5), owed()),
            [[0], [0, 3], [0], [0, 2], [0], [0, 1], [1, 0], [0, 0]],
        )

    def test_on_its_last_day_by_the_last_ones_act(self):
        setup = [begin(2), act(5, 1), clause(when=1, what=5, must=0, act=3, days=2), go()]
        self.assertEqual(
            behind(setup, do(0, NONE), do(1, 5), owed(), do(0, NONE), do(1, 5), owed()),
            [[0], [0], [0, 1], [0], [0], [0, 0]],
        )

    def test_by_the_days_end(self):
        setup = [begin(1), clause(when=2, what=1, act=3, days=5), clause(when=1, what=5, must=0, act=9, days=2), go()]
        self.assertEqual(
            behind(setup, do(0, 5), do(0, NONE), owed(), do(0, 5), do(0, NONE), owed()),
            [[0], [0], [0, 5, 0], [0], [0], [0, 3, 0]],
        )


class TwoThatCallEachOtherUpForEver(unittest.TestCase):
    def test_two_musts_by_their_acts(self):
        setup = [begin(1), clause(when=1, what=4, act=3, days=2), clause(when=1, what=3, act=4, days=2), go()]
        moves = [do(0, 3), owed(), best(), can(0), do(0, 4), owed(), best(), can(0)] * 20
        self.assertEqual(
            behind(setup, can(0), best(), *moves), [[1], [NONE]] + [[0], [0, 0, 1], [4], [1], [0], [0, 1, 0], [3], [1]] * 20
        )

    def test_two_musts_of_one_day_cannot_be_begun(self):
        setup = [begin(1), clause(when=1, what=4, act=3, days=1), clause(when=1, what=3, act=4, days=1), go()]
        self.assertEqual(behind(setup, can(0), best(), do(0, 3), owed()), [[1], [NONE], [1, 0], [0, 0, 0]])

    def test_two_parties(self):
        setup = [begin(2), act(4, 1), clause(when=1, what=4, act=3, days=2)]
        setup += [clause(when=1, what=3, who=1, act=4, days=1), go()]
        moves = [best(), do(0, 3), owed(), best(), can(0), can(1), do(1, 4), owed()]
        self.assertEqual(
            behind(setup, *moves, *moves),
            [[NONE], [0], [1, 0, 1], [4], [1], [1], [0], [0, 1, 0], [3], [0], [1, 0, 1], [4], [1], [1], [0], [0, 1, 0]],
        )

    def test_with_a_third_there_is_no_time_for_it(self):
        # Begun, acts 3 and 4 take every day in turn; act 5 can't come between.
        loop = [clause(when=1, what=4, act=3, days=2), clause(when=1, what=3, act=4, days=2)]
        third = clause(when=1, what=9, act=5, days=2)
        setup = [begin(2), act(9, 1), *loop, third, go()]
        self.assertEqual(behind(setup, can(0), do(0, 3), can(0), can(1)), [[1], [0], [0], [1]])

    def test_by_their_being_kept_or_broken_they_never_begin(self):
        for when in (2, 3):
            setup = [begin(1), clause(when=when, what=1, act=3), clause(when=when, what=0, act=4), go()]
            self.assertEqual(behind(setup, owed(), do(0, 3), do(0, 4), owed(), can(0)),
                             [[0, 0, 0], [0], [0], [0, 0, 0], [1]], when)


class WhatRefersToAClauseThatsNeverTold(unittest.TestCase):
    def test_it_is_never_called_up(self):
        for when in (2, 3):
            for what in (2, 3, 7):
                for must in (0, 1):
                    setup = [begin(1), clause(must=must, act=3), clause(when=when, what=what, act=4), go()]
                    self.assertEqual(
                        behind(setup, do(0, 3), owed(), do(0, NONE), owed(), can(0), best()),
                        [[0] if must else [1, 0], [0, 0, 0], [0], [0, 0, 0], [1], [NONE]],
                        (when, what, must),
                    )

    def test_one_that_is_told_later_does_call_it_up(self):
        setup = [begin(1), clause(when=2, what=1, act=4, days=3), clause(must=1, act=3), go()]
        self.assertEqual(behind(setup, do(0, 3), owed()), [[0], [0, 2, 0]])

    def test_one_that_was_told_before_a_begin_came_again_does_not(self):
        setup = [begin(1), clause(), clause(must=0, act=3), go(), begin(1), clause(when=2, what=1, act=4), go()]
        self.assertEqual(behind(setup, owed(), do(0, NONE), owed()), [[0, 0], [0], [0, 0]])


if __name__ == "__main__":
    unittest.main()
