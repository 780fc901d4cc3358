"""Point 3: go. What is owed then is read from the agreement itself."""

import unittest

from calling import act, begin, clause, go, told
from keepable.agreement import Agreement, Clause


def agreement_of(n, *clauses):
    agreement = Agreement()
    agreement.begin(n)
    for told_as in clauses:
        agreement.clause(Clause(*told_as))
    return agreement


class Go(unittest.TestCase):
    def test_it_goes_off(self):
        self.assertEqual(told(begin(1), go()), [0, 0])
        self.assertEqual(
            told(begin(2), act(1, 1), clause(who=1, act=1), go(), act(0, 1), clause()), [0, 0, 0, 0, -16, -16]
        )

    def test_it_goes_off_anew(self):
        self.assertEqual(told(begin(1), clause(), go(), go(), go(), clause()), [0, 0, 0, 0, 0, -16])

    def test_behind_a_begin_that_came_again(self):
        self.assertEqual(told(begin(1), go(), begin(2), go(), clause(), begin(2), clause()), [0, 0, 0, 0, -16, 0, 0])

    def test_what_the_beginning_calls_up_is_owed_with_its_days(self):
        agreement = agreement_of(1, (0, 0, 1, 0, 0, 7), (0, 0, 0, 0, 1, 1), (0, 0, 1, 0, 2, 4))
        self.assertEqual(agreement.go(), 0)
        self.assertEqual(agreement.left, [7, 1, 4])
        self.assertEqual(agreement.turn, 0)
        self.assertIs(agreement.gone, True)

    def test_nothing_else_is_owed(self):
        agreement = agreement_of(1, (1, 0, 1, 0, 0, 7), (0, 0, 0, 0, 1, 3), (2, 1, 1, 0, 2, 5), (3, 3, 0, 0, 2, 2))
        self.assertEqual(agreement.go(), 0)
        self.assertEqual(agreement.left, [0, 3, 0, 0])

    def test_without_clauses_nothing_is_owed(self):
        agreement = agreement_of(4)
        self.assertEqual(agreement.go(), 0)
        self.assertEqual(agreement.left, [])

    def test_anew_it_is_as_at_the_first_go(self):
        agreement = agreement_of(3, (0, 0, 1, 0, 0, 6), (1, 0, 1, 0, 0, 2))
        agreement.go()
        agreement.left = [0, 2]
        agreement.turn = 2
        self.assertEqual(agreement.go(), 0)
        self.assertEqual(agreement.left, [6, 0])
        self.assertEqual(agreement.turn, 0)
        self.assertIs(agreement.gone, True)

    def test_a_clause_stays_as_it_was_told(self):
        agreement = agreement_of(2, (1, 9, 0, 0, 5, 2))
        clause_told = agreement.clauses[0]
        self.assertEqual(
            (clause_told.when, clause_told.what, clause_told.must, clause_told.who, clause_told.deed, clause_told.days),
            (1, 9, 0, 0, 5, 2),
        )

    def test_a_begin_refused_after_it_leaves_what_is_owed(self):
        agreement = agreement_of(2, (0, 0, 1, 0, 0, 5))
        agreement.go()
        self.assertEqual([agreement.begin(0), agreement.begin(5)], [-22, -22])
        self.assertEqual(agreement.left, [5])
        self.assertIs(agreement.gone, True)


if __name__ == "__main__":
    unittest.main()
