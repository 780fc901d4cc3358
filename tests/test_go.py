"""Point 3: go."""

import unittest

from calling import NONE, act, begin, clause, do, each, go, last, owed, told


class Go(unittest.TestCase):
    def test_it_goes_off(self):
        self.assertEqual(told(begin(1), go()), [0, 0])
        self.assertEqual(
            told(begin(2), act(1, 1), clause(who=1, act=1), go(), act(0, 1), clause()), [0, 0, 0, 0, -16, -16]
        )

    def test_it_goes_off_anew(self):
        self.assertEqual(told(begin(1), clause(), go(), go(), go(), clause()), [0, 0, 0, 0, 0, -16])

    def test_behind_a_begin_that_came_again(self):
        self.assertEqual(told(begin(1), go(), begin(2), go(), clause(), begin(2), clause()), [0, 0, 0, 0, -16, 0, 0])

    def test_what_the_beginning_calls_up_is_owed_with_its_days(self):
        clauses = [clause(days=7), clause(must=0, act=1, days=1), clause(act=2, days=4)]
        self.assertEqual(last(begin(1), *clauses, go(), owed()), [0, 7, 1, 4])

    def test_nothing_else_is_owed(self):
        clauses = [
            clause(when=1, what=0, days=7),
            clause(must=0, act=1, days=3),
            clause(when=2, what=1, act=2, days=5),
            clause(when=3, what=3, must=0, act=2, days=2),
        ]
        self.assertEqual(last(begin(1), *clauses, go(), owed()), [0, 0, 3, 0, 0])

    def test_without_clauses_nothing_is_owed(self):
        self.assertEqual(last(begin(4), go(), owed()), [0])

    def test_anew_it_is_as_at_the_first_go(self):
        clauses = [clause(act=0, days=6), clause(when=1, what=0, act=0, days=2)]
        self.assertEqual(
            each(begin(3), *clauses, go(), owed(), do(0, 0), do(1, NONE), owed(), go(), owed())[4:],
            [[0, 6, 0], [0], [0], [2, 0, 2], [0], [0, 6, 0]],
        )

    def test_behind_a_begin_it_is_by_the_new_clauses(self):
        first = [begin(2), clause(act=3, days=5), go(), do(0, 3)]
        second = [begin(1), clause(must=0, act=3, days=2), clause(act=4, days=6), go()]
        self.assertEqual(last(*first, *second, owed()), [0, 2, 6])
        self.assertEqual(last(*first, *second, do(0, 3)), [1, 0])

    def test_a_begin_refused_after_it_leaves_what_is_owed(self):
        self.assertEqual(
            each(begin(2), clause(days=5), go(), do(0, NONE), begin(0), begin(5), owed())[4:], [[-22], [-22], [1, 5]]
        )


if __name__ == "__main__":
    unittest.main()
