"""Point 5: owed."""

import unittest

from calling import NONE, act, begin, behind, clause, do, each, go, last, owed


class Owed(unittest.TestCase):
    def test_before_a_go(self):
        self.assertEqual(last(begin(1), owed()), [-16])
        self.assertEqual(last(begin(4), clause(), act(3, 2), owed()), [-16])

    def test_before_the_go_behind_a_begin_that_came_again(self):
        self.assertEqual(last(begin(1), clause(), go(), begin(1), owed()), [-16])
        self.assertEqual(last(begin(1), clause(), go(), begin(5), owed()), [0, 1])

    def test_without_clauses(self):
        for n in (1, 2, 3, 4):
            self.assertEqual(last(begin(n), go(), owed()), [0], n)
        self.assertEqual(last(begin(4), go(), do(0, 3), do(1, NONE), owed()), [2])

    def test_with_eight_clauses(self):
        days = [1, 2, 3, 4, 5, 6, 7, 1]
        clauses = [clause(must=0, act=number, days=days[number]) for number in range(8)]
        self.assertEqual(
            behind([begin(2), *clauses, go()], owed(), do(0, NONE), owed(), do(1, NONE), owed()),
            [[0, *days], [0], [1, *days], [0], [0, 0, 1, 2, 3, 4, 5, 6, 0]],
        )

    def test_the_eighth_clause_is_owed_like_the_others(self):
        clauses = [clause(when=1, what=9, act=0)] * 7 + [clause(must=0, act=7, days=3)]
        self.assertEqual(last(begin(1), *clauses, go(), owed()), [0, 0, 0, 0, 0, 0, 0, 0, 3])

    def test_a_clause_that_was_refused_is_not_among_them(self):
        self.assertEqual(last(begin(1), *[clause()] * 9, go(), owed()), [0] + [1] * 8)
        self.assertEqual(last(begin(1), clause(days=8), clause(days=7), go(), owed()), [0, 7])

    def test_after_each_kind_of_move(self):
        setup = [
            begin(2),
            act(5, 1),
            clause(must=1, act=3, days=3),
            clause(must=0, act=4, days=3),
            clause(when=1, what=5, must=1, act=6, days=4),
            clause(when=2, what=0, must=0, act=7, days=5),
            clause(when=3, what=1, must=0, act=8, days=6),
            go(),
        ]
        self.assertEqual(
            behind(setup, owed(), do(0, NONE), owed(), do(1, 5), owed(), do(0, 3), owed(), do(1, NONE), owed(),
                   do(0, 4), owed()),
            [[0, 3, 3, 0, 0, 0], [0], [1, 3, 3, 0, 0, 0], [0], [0, 2, 2, 3, 0, 0], [0], [1, 0, 2, 3, 5, 0], [0],
             [0, 0, 1, 2, 4, 0], [1, 0], [1, 0, 0, 2, 4, 6]],
        )

    def test_behind_a_second_go(self):
        setup = [begin(2), clause(act=3, days=4), clause(when=2, what=0, act=3, days=6), go()]
        self.assertEqual(
            behind(setup, do(0, 3), owed(), go(), owed(), do(0, NONE), do(1, NONE), owed(), go(), owed()),
            [[0], [1, 0, 6], [0], [0, 4, 0], [0], [0], [0, 3, 0], [0], [0, 4, 0]],
        )

    def test_it_changes_nothing(self):
        self.assertEqual(
            each(begin(1), clause(days=2), owed(), go(), owed(), owed(), do(0, NONE), owed(), owed())[2:],
            [[-16], [0], [0, 2], [0, 2], [0], [0, 1], [0, 1]],
        )


if __name__ == "__main__":
    unittest.main()
