"""The interface: how calls and answers lie in their lists, and that nothing is changed or kept."""

import unittest

from calling import NONE, TOP, act, begin, best, can, clause, do, go, line, owed
from keepable.clauses import answers, clause_of
from samples import JUST_BEYOND

MIXED = line(
    begin(0),
    begin(3),
    act(5, 2),
    act(16, 0),
    clause(when=0, what=0, must=1, who=2, act=5, days=7),
    clause(when=1, what=15, must=0, who=0, act=1, days=2),
    clause(when=2, what=8, must=0, who=0, act=1, days=1),
    act(5, 0),
    go(),
    act(5, 0),
    clause(),
    go(),
    begin(TOP),
    owed(),
    do(0, 15),
    owed(),
    can(0),
    can(2),
    can(3),
    best(),
    do(1, 5),
    do(0, 3),
    do(1, NONE),
    best(),
    do(2, 5),
    owed(),
    do(0, 1),
    owed(),
    begin(1),
    clause(),
    do(0, 0),
    owed(),
    can(0),
    best(),
)
MIXED_ANSWERS = [
    1, -22, 1, 0, 1, 0, 1, -22, 1, 0, 1, 1, 1, -22, 1, -17, 1, 0, 1, -16, 1, -16, 1, 0, 1, -22,
    3, 0, 7, 0, 1, 0, 3, 1, 7, 2, 1, 1, 1, 1, 1, -22, 1, 255, 1, -22, 1, -1, 1, 0, 1, 255, 1, 0,
    3, 0, 0, 1, 2, 1, 0, 3, 1, 0, 0, 1, 0, 1, 0, 1, -16, 1, -16, 1, -16, 1, -16,
]


def refuse(*given, **named):
    raise AssertionError("the list handed in was changed")


class Unchanging(list):
    append = clear = extend = insert = pop = remove = reverse = sort = refuse
    __setitem__ = __delitem__ = __iadd__ = __imul__ = refuse


class Answers(unittest.TestCase):
    def test_one_call(self):
        self.assertEqual(answers([0, 1]), [1, 0])
        self.assertEqual(answers([0, 5]), [1, -22])

    def test_calls_one_behind_another(self):
        self.assertEqual(answers([0, 2, 1, 3, 1, 2, 0, 0, 1, 1, 3, 7, 3]), [1, 0, 1, 0, 1, 0, 1, 0])
        self.assertEqual(answers(MIXED), MIXED_ANSWERS)

    def test_how_the_numbers_of_a_clause_lie(self):
        right = [2, 1, 9, 0, 3, 4, 6]
        begun = [0, 4, 1, 4, 3]
        self.assertEqual(answers(begun + right), [1, 0, 1, 0, 1, 0])
        for place, wrong in ((1, 4), (2, 16), (4, 2), (5, 5), (6, 8)):
            changed = right[:place] + [wrong] + right[place + 1:]
            self.assertEqual(answers(begun + changed), [1, 0, 1, 0, 1, -22], place)

    def test_each_number_of_a_clause_is_kept_as_what_it_is(self):
        kept = clause_of([1, 9, 0, 3, 4, 6])
        self.assertEqual((kept.when, kept.what, kept.must, kept.who, kept.deed, kept.days), (1, 9, 0, 3, 4, 6))

    def test_how_the_numbers_of_an_act_lie(self):
        self.assertEqual(answers([0, 2, 1, 15, 1, 1, 1, 15]), [1, 0, 1, 0, 1, -22])

    def test_how_the_numbers_of_do_and_can_lie(self):
        begun = [0, 2, 1, 1, 1, 3]
        self.assertEqual(answers(begun + [4, 0, 1]), [1, 0, 1, 0, 1, 0, 1, -22])
        self.assertEqual(answers(begun + [4, 1, 0]), [1, 0, 1, 0, 1, 0, 1, -1])
        self.assertEqual(answers(begun + [4, 0, 0, 4, 1, 1, 6, 1]), [1, 0] * 5 + [1, 1])

    def test_how_the_answers_of_do_and_owed_lie(self):
        begun = line(begin(2), act(4, 1), clause(who=1, act=4), clause(act=3), clause(must=0, act=5, days=7), go())
        self.assertEqual(
            answers(begun + line(owed(), do(0, NONE), do(1, NONE), owed(), best())),
            [1, 0, 1, 0, 1, 0, 1, 1, 1, 2, 1, 0] + [4, 0, 1, 1, 7] + [1, 0] + [3, 2, 0, 1] + [4, 0, 0, 0, 6] + [1, 255],
        )

    def test_numbers_that_look_like_calls(self):
        self.assertEqual(answers([0, 3, 1, 0, 0, 1, 3, 2, 2, 2, 2, 0, 0, 2, 2, 3, 0, 3]), [1, 0] * 6)

    def test_three_hundred_calls(self):
        self.assertEqual(answers(line(begin(4), *[go()] * 299)), [1, 0] * 300)
        self.assertEqual(
            answers(line(begin(1), *[clause()] * 299)),
            [1, 0] + line(*[[1, number] for number in range(8)]) + [1, -28] * 291,
        )

    def test_three_hundred_calls_of_a_long_course(self):
        # Act 3 calls for itself within 2 days: begun once, it's the best act at each turn.
        setup = line(begin(1), clause(when=1, what=3, act=3, days=2), go(), do(0, 3), owed())
        day = line(can(0), best(), owed(), do(0, 3), owed())
        self.assertEqual(
            answers(setup + day * 59),
            [1, 0, 1, 0, 1, 0, 1, 0, 2, 0, 1] + [1, 1, 1, 3, 2, 0, 1, 1, 0, 2, 0, 1] * 59,
        )

    def test_three_hundred_calls_on_as_many_places(self):
        setup = JUST_BEYOND.setup()
        asked = [do(0, NONE), *[can(2), best()] * ((299 - len(setup)) // 2)]
        given = answers(line(*setup, *asked))
        self.assertEqual(given[2 * len(setup):], [1, 0] + [1, 1, 1, NONE] * ((299 - len(setup)) // 2))
        asked = [can(0)] * (300 - len(setup))
        self.assertEqual(answers(line(*setup, *asked))[2 * len(setup):], [1, -75] * (300 - len(setup)))

    def test_whole_numbers_in_a_list(self):
        given = answers(MIXED)
        self.assertIs(type(given), list)
        self.assertEqual({type(number) for number in given}, {int})

    def test_the_list_handed_in_stays_as_it_was(self):
        calls = list(MIXED)
        answers(calls)
        self.assertEqual(calls, MIXED)

    def test_the_list_handed_in_is_not_changed_for_a_while_either(self):
        self.assertEqual(answers(Unchanging(MIXED)), MIXED_ANSWERS)

    def test_what_is_given_back_is_a_list_of_its_own(self):
        calls = list(MIXED)
        answers(calls).clear()
        self.assertEqual(calls, MIXED)
        self.assertEqual(answers(calls), MIXED_ANSWERS)

    def test_nothing_is_kept_from_one_time_to_the_next(self):
        others = (
            line(begin(4), act(5, 3), clause(who=3, act=5), go()),
            line(begin(1), *[clause()] * 9),
            line(begin(5)),
            line(begin(2), clause(act=3, days=2), go(), do(0, 3), do(1, NONE), can(0), best(), owed()),
            line(*JUST_BEYOND.setup(), can(0), do(0, NONE), can(0), best()),
        )
        for other in others:
            first = answers(other)
            self.assertEqual(answers(MIXED), MIXED_ANSWERS)
            self.assertEqual(answers(other), first)


if __name__ == "__main__":
    unittest.main()
