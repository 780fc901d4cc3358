"""Point 2: act."""

import unittest

from calling import TOP, act, begin, clause, go, told


class Act(unittest.TestCase):
    def test_at_first_every_act_is_party_0s(self):
        for a in range(16):
            self.assertEqual(told(begin(4), clause(who=1, act=a), clause(who=0, act=a)), [0, -22, 0], a)

    def test_given_it_is_theirs_alone(self):
        for a in range(16):
            for p in range(4):
                owners = [0 if who == p else -22 for who in range(4)]
                given = told(begin(4), act(a, p), *[clause(who=who, act=a) for who in range(4)])
                self.assertEqual(given, [0, 0] + owners, (a, p))

    def test_no_other_act_is_given_with_it(self):
        for a in (0, 1, 14, 15):
            others = [other for other in range(16) if other != a]
            for other in others:
                self.assertEqual(told(begin(2), act(a, 1), clause(who=0, act=other)), [0, 0, 0], (a, other))

    def test_given_on_and_back(self):
        self.assertEqual(
            told(begin(3), act(6, 1), act(6, 2), act(6, 2), clause(who=1, act=6), act(6, 0), clause(who=2, act=6),
                 clause(who=0, act=6)),
            [0, 0, 0, 0, -22, 0, -22, 0],
        )

    def test_act_15_and_16(self):
        self.assertEqual(told(begin(1), act(15, 0), act(16, 0)), [0, 0, -22])

    def test_no_such_act(self):
        for a in (16, 17, 255, 256, 65536, TOP - 15, TOP):
            self.assertEqual(told(begin(4), act(a, 0)), [0, -22], a)

    def test_party_just_within_and_just_beyond(self):
        for n in (1, 2, 3, 4):
            self.assertEqual(told(begin(n), act(2, n - 1), act(2, n), clause(who=n - 1, act=2)), [0, 0, -22, 0], n)

    def test_no_such_party(self):
        for p in (4, 5, 255, 256, 65536, TOP - 3, TOP):
            self.assertEqual(told(begin(4), act(0, p)), [0, -22], p)

    def test_a_clause_names_it(self):
        self.assertEqual(told(begin(2), clause(act=3), act(3, 1), act(3, 0), act(4, 1)), [0, 0, -17, -17, 0])
        self.assertEqual(told(begin(2), act(15, 1), clause(who=1, act=15), act(15, 0)), [0, 0, 0, -17])

    def test_any_of_the_clauses_names_it(self):
        for a in range(8):
            self.assertEqual(
                told(begin(2), *[clause(act=named) for named in range(8)], act(a, 1), act(8, 1)),
                [0, 0, 1, 2, 3, 4, 5, 6, 7, -17, 0],
                a,
            )

    def test_whatever_the_clause_is(self):
        for when in range(4):
            for must in (0, 1):
                self.assertEqual(told(begin(2), clause(when=when, must=must, act=9), act(9, 1)), [0, 0, -17])

    def test_what_calls_a_clause_up_is_not_named_by_it(self):
        self.assertEqual(
            told(begin(2), clause(when=1, what=3, act=5), act(3, 1), clause(who=1, act=3), act(5, 1)),
            [0, 0, 0, 1, -17],
        )

    def test_gone_off(self):
        self.assertEqual(told(begin(4), go(), act(0, 0), act(15, 3)), [0, 0, -16, -16])
        self.assertEqual(told(begin(4), go(), go(), act(0, 0)), [0, 0, 0, -16])

    def test_gone_off_comes_ahead_of_the_others(self):
        self.assertEqual(
            told(begin(2), clause(act=3), go(), act(16, 0), act(0, 2), act(3, 1), act(3, 2), act(TOP, TOP)),
            [0, 0, 0, -16, -16, -16, -16, -16],
        )

    def test_wrong_comes_ahead_of_named(self):
        self.assertEqual(told(begin(2), clause(act=3), act(3, 2), act(3, TOP), act(3, 1)), [0, 0, -22, -22, -17])

    def test_refused_it_changes_nothing(self):
        self.assertEqual(told(begin(2), act(3, 1), act(3, 2), clause(who=1, act=3)), [0, 0, -22, 0])
        self.assertEqual(told(begin(2), act(16, 1), *[clause(act=a) for a in range(8)]), [0, -22] + list(range(8)))
        self.assertEqual(told(begin(2), act(31, 1), clause(act=15)), [0, -22, 0])
        self.assertEqual(
            told(begin(2), clause(act=3), act(3, 1), clause(who=1, act=3), clause(act=3)), [0, 0, -17, -22, 1]
        )


if __name__ == "__main__":
    unittest.main()
