"""Point 1: begin."""

import unittest

from calling import TOP, act, begin, clause, go, told


class Begin(unittest.TestCase):
    def test_one_to_four_parties(self):
        for n in (1, 2, 3, 4):
            self.assertEqual(told(begin(n)), [0], n)

    def test_no_party_or_too_many(self):
        for n in (0, 5, 6, 16, 255, 256, 65536, 2147483648, TOP):
            self.assertEqual(told(begin(n)), [-22], n)

    def test_refused_until_it_fits(self):
        self.assertEqual(told(begin(0), begin(5), begin(TOP), begin(4), act(0, 3)), [-22, -22, -22, 0, 0])

    def test_so_many_parties(self):
        for n in (1, 2, 3, 4):
            self.assertEqual(told(begin(n), act(0, n - 1), act(1, n)), [0, 0, -22], n)

    def test_again_with_more_or_fewer_parties(self):
        self.assertEqual(told(begin(1), act(0, 1), begin(4), act(0, 3)), [0, -22, 0, 0])
        self.assertEqual(told(begin(4), act(0, 3), begin(2), act(0, 2), act(0, 1)), [0, 0, 0, -22, 0])

    def test_again_before_a_go_there_are_no_clauses(self):
        self.assertEqual(
            told(begin(2), clause(act=3), clause(act=3), act(3, 1), begin(2), act(3, 1), clause(who=1, act=3)),
            [0, 0, 1, -17, 0, 0, 0],
        )

    def test_again_with_eight_clauses_there_is_room(self):
        full = [clause()] * 8
        self.assertEqual(
            told(begin(1), *full, clause(), begin(1), *full, clause()),
            [0, 0, 1, 2, 3, 4, 5, 6, 7, -28, 0, 0, 1, 2, 3, 4, 5, 6, 7, -28],
        )

    def test_again_after_a_go_it_has_not_gone_off(self):
        self.assertEqual(
            told(begin(2), clause(), go(), act(1, 1), clause(), begin(3), act(0, 2), clause(who=2), go(), act(1, 1)),
            [0, 0, 0, -16, -16, 0, 0, 0, 0, -16],
        )

    def test_again_every_act_is_party_0s(self):
        for a in (0, 7, 15):
            self.assertEqual(
                told(begin(4), act(a, 3), begin(4), clause(who=3, act=a), clause(who=0, act=a)),
                [0, 0, 0, -22, 0],
                a,
            )

    def test_refused_it_changes_nothing_before_a_go(self):
        for n in (0, 5, TOP):
            self.assertEqual(
                told(begin(2), act(4, 1), clause(who=1, act=4), begin(n), act(4, 0), act(5, 1), act(5, 2),
                     clause(who=1, act=4), clause(who=1, act=5)),
                [0, 0, 0, -22, -17, 0, -22, 1, 2],
                n,
            )

    def test_refused_it_changes_nothing_after_a_go(self):
        for n in (0, 5, TOP):
            self.assertEqual(told(begin(2), go(), begin(n), act(0, 0), clause(), go()), [0, 0, -22, -16, -16, 0], n)


if __name__ == "__main__":
    unittest.main()
