"""Groups of numbers, against lists of sets."""

import random
import unittest

from bastion.groups import Groups


def united(sets, a, b):
    one = next(some for some in sets if a in some)
    other = next(some for some in sets if b in some)
    return [some for some in sets if some not in (one, other)] + [one | other]


class GroupsTest(unittest.TestCase):

    def check(self, groups, sets):
        self.assertEqual(groups.leaders(), sorted(min(some) for some in sets))
        for some in sets:
            for number in some:
                self.assertEqual(groups.least(number), min(some))
                self.assertEqual(groups.mask(number), sum(2 ** k for k in some))

    def test_in_the_beginning_each_number_is_alone(self):
        self.check(Groups(0), [])
        self.check(Groups(4), [{0}, {1}, {2}, {3}])

    def test_random_unions(self):
        source = random.Random(1)
        for count in (1, 2, 5, 9, 30):
            groups = Groups(count)
            sets = [{k} for k in range(count)]
            for _ in range(2 * count):
                a, b = source.randrange(count), source.randrange(count)
                groups.unite(a, b)
                sets = united(sets, a, b)
                self.check(groups, sets)

    def test_a_long_chain(self):
        groups = Groups(5000)
        for k in reversed(range(4999)):
            groups.unite(k, k + 1)
        self.assertEqual(groups.leaders(), [0])
        self.assertEqual(groups.least(4999), 0)


if __name__ == "__main__":
    unittest.main()
