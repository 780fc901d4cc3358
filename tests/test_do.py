"""Point 4: do, and what stands ahead of the points: an act is done, a day is over, called up."""

import unittest

from calling import NONE, TOP, act, begin, behind, clause, do, go, last, owed


class DoAnAct(unittest.TestCase):
    def test_it_keeps(self):
        setup = [begin(2), clause(must=1, act=3, days=2), go()]
        self.assertEqual(behind(setup, do(0, 3), owed()), [[0], [1, 0]])

    def test_it_breaks(self):
        setup = [begin(2), clause(must=0, act=3, days=5), go()]
        self.assertEqual(behind(setup, do(0, 3), owed()), [[1, 0], [1, 0]])

    def test_it_calls_up(self):
        setup = [begin(2), clause(when=1, what=3, act=4, days=3), clause(when=1, what=4, act=4, days=3), go()]
        self.assertEqual(behind(setup, owed(), do(0, 3), owed()), [[0, 0, 0], [0], [1, 3, 0]])

    def test_it_calls_up_whosever_it_is(self):
        setup = [begin(3), act(3, 1), clause(when=1, what=3, act=4, days=3), go()]
        self.assertEqual(behind(setup, do(0, NONE), do(1, 3), owed()), [[0], [0], [2, 3]])

    def test_what_it_keeps_calls_up(self):
        clauses = [
            clause(must=1, act=3, days=2),
            clause(when=2, what=0, act=4, days=5),
            clause(when=3, what=0, act=4, days=6),
            clause(when=2, what=1, act=4, days=7),
        ]
        self.assertEqual(behind([begin(2), *clauses, go()], do(0, 3), owed()), [[0], [1, 0, 5, 0, 0]])

    def test_what_it_breaks_calls_up(self):
        clauses = [
            clause(must=0, act=3, days=2),
            clause(when=2, what=0, act=4, days=5),
            clause(when=3, what=0, act=4, days=6),
            clause(when=3, what=2, act=4, days=7),
        ]
        self.assertEqual(behind([begin(2), *clauses, go()], do(0, 3), owed()), [[1, 0], [1, 0, 0, 6, 0]])

    def test_what_is_called_up_does_not_call_up_in_the_same_move(self):
        clauses = [clause(when=1, what=3, must=1, act=3, days=4), clause(when=2, what=0, act=4, days=5)]
        self.assertEqual(
            behind([begin(1), *clauses, go()], do(0, 3), owed(), do(0, 3), owed()), [[0], [0, 3, 0], [0], [0, 3, 4]]
        )

    def test_clauses_that_are_not_owed_are_neither_kept_nor_broken(self):
        clauses = [
            clause(when=1, what=9, must=1, act=3),
            clause(when=1, what=9, must=0, act=3),
            clause(when=2, what=0, act=4),
            clause(when=3, what=1, act=4),
        ]
        self.assertEqual(behind([begin(2), *clauses, go()], do(0, 3), owed()), [[0], [1, 0, 0, 0, 0]])

    def test_clauses_that_do_not_name_it_stay_owed(self):
        clauses = [clause(must=1, act=3, days=4), clause(must=0, act=4, days=5), clause(must=1, act=5, days=6)]
        self.assertEqual(behind([begin(2), *clauses, go()], do(0, 3), owed()), [[0], [1, 0, 5, 6]])

    def test_an_act_that_is_named_nowhere(self):
        setup = [begin(2), clause(act=3, days=4), go()]
        self.assertEqual(behind(setup, do(0, 15), owed()), [[0], [1, 4]])

    def test_all_that_name_it_at_once(self):
        clauses = [clause(must=1, act=3, days=4), clause(must=1, act=3, days=1), clause(must=0, act=3, days=7)]
        self.assertEqual(behind([begin(2), *clauses, go()], do(0, 3), owed()), [[1, 0], [1, 0, 0, 0]])

    def test_none(self):
        clauses = [clause(must=1, act=15, days=4), clause(must=0, act=0, days=5), clause(when=1, what=15)]
        self.assertEqual(behind([begin(2), *clauses, go()], do(0, NONE), owed()), [[0], [1, 4, 5, 0]])

    def test_each_act_is_told_from_the_others(self):
        for a in range(16):
            clauses = [clause(must=0, act=a, days=3)]
            for b in range(16):
                given = last(begin(2), *clauses, go(), do(0, b))
                self.assertEqual(given, [1, 0] if a == b else [0], (a, b))


class DoTheLastOnesTurn(unittest.TestCase):
    def test_turn_by_turn(self):
        for n in (1, 2, 3, 4):
            turns = [each_turn for turn in range(n) for each_turn in (owed(), do(turn, NONE))]
            told_turns = [answer for turn in range(n) for answer in ([turn], [0])]
            self.assertEqual(behind([begin(n), go()], *turns, *turns, owed()), told_turns + told_turns + [[0]], n)

    def test_a_day_less_with_the_last_ones_turn_alone(self):
        setup = [begin(3), clause(must=0, act=3, days=7), clause(act=4, days=2), go()]
        self.assertEqual(
            behind(setup, do(0, NONE), owed(), do(1, NONE), owed(), do(2, NONE), owed()),
            [[0], [1, 7, 2], [0], [2, 7, 2], [0], [0, 6, 1]],
        )

    def test_a_must_is_broken(self):
        setup = [begin(2), clause(must=1, act=3, days=1), go()]
        self.assertEqual(behind(setup, do(0, NONE), do(1, NONE), owed()), [[0], [1, 0], [0, 0]])

    def test_a_must_is_broken_on_its_last_day_and_no_sooner(self):
        for days in range(1, 8):
            setup = [begin(1), clause(must=1, act=3, days=days), go()]
            moves = [do(0, NONE)] * (days - 1)
            self.assertEqual(behind(setup, *moves, do(0, NONE)), [[0]] * (days - 1) + [[1, 0]], days)
            self.assertEqual(behind(setup, *moves, do(0, 3), do(0, NONE)), [[0]] * (days + 1), days)

    def test_a_mustnt_is_kept_by_time(self):
        for days in range(1, 8):
            setup = [begin(1), clause(must=0, act=3, days=days), go()]
            moves = [do(0, NONE)] * (days - 1)
            self.assertEqual(behind(setup, *moves, do(0, 3)), [[0]] * (days - 1) + [[1, 0]], days)
            self.assertEqual(behind(setup, *moves, do(0, NONE), do(0, 3)), [[0]] * (days + 1), days)

    def test_what_these_call_up(self):
        clauses = [
            clause(must=1, act=3, days=1),
            clause(must=0, act=4, days=1),
            clause(when=3, what=0, act=5, days=2),
            clause(when=2, what=0, act=5, days=3),
            clause(when=2, what=1, act=5, days=4),
            clause(when=3, what=1, act=5, days=5),
        ]
        self.assertEqual(
            behind([begin(2), *clauses, go()], do(0, NONE), do(1, NONE), owed()), [[0], [1, 0], [0, 0, 0, 2, 0, 4, 0]]
        )

    def test_what_the_day_calls_up_has_all_its_days(self):
        setup = [begin(1), clause(must=0, act=3, days=1), clause(when=2, what=0, must=1, act=4, days=1), go()]
        self.assertEqual(behind(setup, do(0, NONE), owed(), do(0, NONE), owed()), [[0], [0, 0, 1], [1, 0], [0, 0, 0]])

    def test_what_the_last_ones_act_calls_up_has_a_day_less(self):
        setup = [begin(2), act(3, 1), clause(when=1, what=3, act=4, days=5), go()]
        self.assertEqual(behind(setup, do(0, NONE), do(1, 3), owed()), [[0], [0], [0, 4]])

    def test_the_act_comes_ahead_of_the_days_end(self):
        clauses = [
            clause(must=1, act=3, days=1),
            clause(when=2, what=0, act=4, days=6),
            clause(when=3, what=0, act=4, days=7),
        ]
        self.assertEqual(behind([begin(1), *clauses, go()], do(0, 3), owed()), [[0], [0, 0, 5, 0]])


class DoWhoBroke(unittest.TestCase):
    def test_two_clauses_by_one_act_told_once(self):
        setup = [begin(2), clause(must=0, act=3, days=1), clause(must=0, act=3, days=2), go()]
        self.assertEqual(behind(setup, do(0, 3), owed()), [[1, 0], [1, 0, 0]])

    def test_two_clauses_by_one_days_end_told_once(self):
        setup = [begin(2), act(3, 1), clause(who=1, act=3), clause(who=1, act=3), go()]
        self.assertEqual(behind(setup, do(0, NONE), do(1, NONE), owed()), [[0], [1, 1], [0, 0, 0]])

    def test_one_clause_by_the_act_and_one_by_the_days_end_told_once(self):
        setup = [begin(2), act(3, 1), act(4, 1), clause(must=0, who=1, act=3, days=3), clause(who=1, act=4), go()]
        self.assertEqual(behind(setup, do(0, NONE), do(1, 3), owed()), [[0], [1, 1], [0, 0, 0]])

    def test_two_parties_told_rising(self):
        for first, second in ((0, 1), (1, 0)):
            clauses = [clause(who=first, act=3 + first), clause(who=second, act=3 + second)]
            setup = [begin(3), act(4, 1), *clauses, go()]
            self.assertEqual(behind(setup, do(0, NONE), do(1, NONE), do(2, NONE)), [[0], [0], [2, 0, 1]])

    def test_one_by_the_act_and_another_by_the_days_end_told_rising(self):
        setup = [begin(2), act(4, 1), clause(must=0, who=1, act=4, days=7), clause(who=0, act=3), go()]
        self.assertEqual(behind(setup, do(0, NONE), do(1, 4), owed()), [[0], [2, 0, 1], [0, 0, 0]])

    def test_some_and_all_of_four(self):
        for broken in ((), (2,), (1, 3), (0, 3), (1, 2, 3), (0, 1, 2, 3)):
            acts = [act(p, p) for p in range(4)]
            clauses = [clause(who=p, act=p) for p in (3, 1, 2, 0)]
            moves = [do(p, NONE if p in broken else p) for p in range(4)]
            given = behind([begin(4), *acts, *clauses, go()], *moves)
            self.assertEqual(given, [[0], [0], [0], [len(broken), *broken]], broken)

    def test_another_than_who_moves(self):
        setup = [begin(4), clause(act=0), go()]
        self.assertEqual(
            behind(setup, do(0, NONE), do(1, NONE), do(2, NONE), do(3, NONE)), [[0], [0], [0], [1, 0]]
        )


class DoRefused(unittest.TestCase):
    def test_not_gone_off(self):
        self.assertEqual(last(begin(1), do(0, NONE)), [-16])
        self.assertEqual(last(begin(1), clause(), do(0, 0)), [-16])
        self.assertEqual(last(begin(1), go(), begin(1), do(0, NONE)), [-16])

    def test_not_their_turn(self):
        for n in (1, 2, 3, 4):
            for turn in range(n):
                moves = [do(p, NONE) for p in range(turn)]
                for p in range(5):
                    given = last(begin(n), go(), *moves, do(p, NONE))
                    self.assertEqual(given, [0] if p == turn else [-1], (n, turn, p))

    def test_no_such_party(self):
        for p in (4, 255, 256, 65536, TOP):
            self.assertEqual(last(begin(4), go(), do(p, NONE)), [-1], p)

    def test_none_of_their_acts(self):
        setup = [begin(2), act(3, 1), go()]
        self.assertEqual(behind(setup, do(0, 3), do(0, 4), do(1, 4), do(1, 3)), [[-22], [0], [-22], [0]])

    def test_no_such_act(self):
        for a in (16, 17, 254, 256, 511, 65535, TOP):
            self.assertEqual(last(begin(1), go(), do(0, a)), [-22], a)
        self.assertEqual(last(begin(1), go(), do(0, 15)), [0])

    def test_not_gone_off_comes_ahead_of_the_others(self):
        for p, a in ((1, 0), (0, 16), (1, 16), (TOP, TOP)):
            self.assertEqual(last(begin(2), do(p, a)), [-16], (p, a))

    def test_not_their_turn_comes_ahead_of_wrong(self):
        for p, a in ((1, 16), (1, 0), (2, 0), (TOP, TOP)):
            self.assertEqual(last(begin(2), go(), do(p, a)), [-1], (p, a))

    def test_refused_it_changes_nothing(self):
        setup = [begin(2), act(5, 1), clause(must=0, act=3, days=4), clause(who=1, act=5, days=2)]
        moves = [do(0, NONE), do(1, NONE)]
        wrong = [do(1, 5), do(1, NONE), do(0, 5), do(0, 16), do(2, NONE), do(TOP, TOP)]
        told_wrong = [[-1], [-1], [-22], [-22], [-1], [-1]]
        self.assertEqual(
            behind([*setup, go(), *moves], owed(), *wrong, owed(), do(0, NONE), do(1, 5), owed()),
            [[0, 3, 1], *told_wrong, [0, 3, 1], [0], [0], [0, 2, 0]],
        )

    def test_refused_before_a_go_it_changes_nothing(self):
        setup = [begin(2), clause(must=0, act=3, days=4), do(0, 3), do(0, NONE), go()]
        self.assertEqual(behind(setup, owed(), do(0, 3)), [[0, 4], [1, 0]])


if __name__ == "__main__":
    unittest.main()
