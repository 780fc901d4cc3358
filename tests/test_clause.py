"""Point 2: clause."""

import unittest

from calling import TOP, act, begin, clause, go, told


class Clause(unittest.TestCase):
    def test_numbered_as_they_are_told(self):
        self.assertEqual(
            told(
                begin(3),
                act(1, 1),
                act(2, 2),
                clause(when=0, what=0, must=1, who=0, act=0, days=3),
                clause(when=1, what=2, must=0, who=1, act=1, days=7),
                clause(when=2, what=0, must=1, who=2, act=2, days=1),
                clause(when=3, what=1, must=0, who=0, act=15, days=2),
            ),
            [0, 0, 0, 0, 1, 2, 3],
        )

    def test_the_same_clause_is_told_again(self):
        self.assertEqual(told(begin(1), clause(), clause(), clause()), [0, 0, 1, 2])

    def test_an_act_may_be_a_must_and_a_mustnt(self):
        self.assertEqual(told(begin(1), clause(must=1, act=4), clause(must=0, act=4)), [0, 0, 1])

    def test_when_just_beyond(self):
        self.assertEqual(told(begin(1), clause(when=3), clause(when=4)), [0, 0, -22])
        for when in (4, 5, 256, 65536, TOP):
            self.assertEqual(told(begin(1), clause(when=when)), [0, -22], when)

    def test_what_within_its_bounds(self):
        within = {0: (0,), 1: range(16), 2: range(8), 3: range(8)}
        for when in within:
            for what in within[when]:
                self.assertEqual(told(begin(1), clause(when=when, what=what)), [0, 0], (when, what))

    def test_what_beyond_its_bounds(self):
        beyond = {0: (1, 7, 15), 1: (16, 17), 2: (8, 9, 15), 3: (8, 9, 15)}
        for when in beyond:
            for what in beyond[when] + (256, 65536, TOP):
                self.assertEqual(told(begin(1), clause(when=when, what=what)), [0, -22], (when, what))

    def test_what_may_be_itself_or_one_that_is_never_told(self):
        for when in (2, 3):
            self.assertEqual(
                told(begin(1), clause(when=when, what=0), clause(when=when, what=2), clause(when=when, what=7)),
                [0, 0, 1, 2],
            )

    def test_what_may_be_anyones_act(self):
        self.assertEqual(told(begin(2), act(3, 1), clause(when=1, what=3, who=0, act=0)), [0, 0, 0])

    def test_who_just_within_and_just_beyond(self):
        for n in (1, 2, 3, 4):
            given = told(begin(n), act(2, n - 1), clause(who=n - 1, act=2), clause(who=n, act=2), clause(who=n, act=3))
            self.assertEqual(given, [0, 0, 0, -22, -22], n)

    def test_no_such_party(self):
        for who in (4, 5, 256, 65536, TOP):
            self.assertEqual(told(begin(4), clause(who=who)), [0, -22], who)

    def test_act_15_and_16(self):
        self.assertEqual(told(begin(1), clause(act=15), clause(act=16)), [0, 0, -22])

    def test_no_such_act(self):
        for named in (16, 17, 256, 65536, TOP - 15, TOP):
            self.assertEqual(told(begin(4), clause(act=named)), [0, -22], named)

    def test_none_of_their_acts(self):
        self.assertEqual(told(begin(2), clause(who=1, act=3)), [0, -22])
        self.assertEqual(told(begin(2), act(3, 1), clause(who=0, act=3), clause(who=1, act=3)), [0, 0, -22, 0])

    def test_days(self):
        for days in range(1, 8):
            self.assertEqual(told(begin(1), clause(days=days)), [0, 0], days)
        for days in (0, 8, 9, 256, 257, 65537, TOP):
            self.assertEqual(told(begin(1), clause(days=days)), [0, -22], days)

    def test_days_whatever_else_is_told(self):
        for when in range(4):
            for must in (0, 1):
                given = told(begin(1), *[clause(when=when, must=must, days=days) for days in (0, 1, 7, 8)])
                self.assertEqual(given, [0, -22, 0, 1, -22], (when, must))

    def test_eighth_and_ninth(self):
        self.assertEqual(told(begin(1), *[clause()] * 10), [0, 0, 1, 2, 3, 4, 5, 6, 7, -28, -28])

    def test_gone_off(self):
        self.assertEqual(told(begin(1), clause(), go(), clause(), go(), clause()), [0, 0, 0, -16, 0, -16])

    def test_gone_off_comes_ahead_of_the_others(self):
        wrong = [clause(when=4), clause(what=1), clause(who=1), clause(act=16), clause(days=0), clause(days=8)]
        self.assertEqual(told(begin(1), go(), *wrong), [0, 0] + [-16] * 6)
        self.assertEqual(
            told(begin(1), *[clause()] * 8, go(), clause(), *wrong), [0, 0, 1, 2, 3, 4, 5, 6, 7, 0] + [-16] * 7
        )

    def test_wrong_comes_ahead_of_full(self):
        wrong = [
            clause(when=4),
            clause(when=0, what=1),
            clause(when=1, what=16),
            clause(when=2, what=8),
            clause(when=3, what=8),
            clause(who=2),
            clause(who=1),
            clause(act=16),
            clause(days=0),
            clause(days=8),
        ]
        given = told(begin(2), *[clause()] * 8, *wrong, clause())
        self.assertEqual(given, [0, 0, 1, 2, 3, 4, 5, 6, 7] + [-22] * 10 + [-28])

    def test_wrong_in_all_at_once(self):
        self.assertEqual(told(begin(4), [2, TOP, TOP, 1, TOP, TOP, TOP], clause()), [0, -22, 0])

    def test_refused_as_wrong_it_changes_nothing(self):
        for wrong in (clause(when=4, act=3), clause(what=1, act=3), clause(who=1, act=3), clause(act=3, days=8)):
            self.assertEqual(
                told(begin(2), clause(), wrong, act(3, 1), clause(who=1, act=3)), [0, 0, -22, 0, 1], wrong
            )

    def test_refused_as_the_ninth_it_names_nothing(self):
        self.assertEqual(
            told(begin(2), *[clause()] * 8, clause(act=3), act(3, 1)), [0, 0, 1, 2, 3, 4, 5, 6, 7, -28, 0]
        )


if __name__ == "__main__":
    unittest.main()
