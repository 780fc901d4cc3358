"""Points 4 and 5 on many agreements: do and owed, compared with the document's words followed plainly."""

import random
import unittest

import plainly
from calling import behind, do, owed
from samples import random_samples


class Plainly(unittest.TestCase):
    def test_do_and_owed(self):
        source = random.Random(17)
        for sample in random_samples(4, 400):
            place = plainly.first_place(sample.clauses)
            calls, expected = [owed()], [list(place)]
            for number in range(40):
                a = source.choice(plainly.moves(sample.owners, place[0]))
                calls += [do(place[0], a), owed()]
                place, broke = plainly.step(sample.n, sample.clauses, place, a)
                expected += [[len(broke), *broke], list(place)]
            self.assertEqual(behind(sample.setup(), *calls), expected, vars(sample))


if __name__ == "__main__":
    unittest.main()
