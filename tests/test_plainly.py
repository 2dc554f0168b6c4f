import random
import unittest

from lines import ask, begins, best, near, tree
from plainly import PlainWood


class LineMaker:
    """Makes calls by chance, from a seed, and notes what the plain wood answers to each."""

    def __init__(self, seed):
        self.chance = random.Random(seed)
        self.wood = PlainWood()
        self.calls = []
        self.expected = []

    def number(self, greatest):
        """Often an edge, seldom beyond it."""
        return self.chance.choice([0, greatest] + [self.chance.randint(0, greatest)] * 20 + [greatest + 1] * (
            self.chance.random() < 0.05))

    def add_begins(self):
        many = self.chance.choice([0, 1, 1, 2, 2, 2, 3, 3, 3, 4, 5])
        top = self.chance.choice([10, 500, 2000])
        thinnings = [(self.number(top), self.number(self.chance.choice([0, 1, 2, 7]))) for _ in range(many)]
        self.calls.append(begins(*thinnings))
        self.expected.append(self.wood.begins(thinnings))

    def add_tree(self):
        span = self.chance.choice([5, 10, 1000])
        place = (self.number(span), self.number(span))
        many = self.chance.choice([len(self.wood.thinnings) + 1] * 12 + [0, 1, 2, 3, 4, 5, 6])
        most = self.chance.choice([1, 3, 1000000])
        worths = [self.number(most) for _ in range(many)]
        self.calls.append(tree(*place, *worths))
        self.expected.append(self.wood.tree(place, worths))

    def add_near(self):
        j = self.chance.randint(0, 3)
        self.calls.append(near(j))
        self.expected.append(self.wood.near(j))

    def add_best(self):
        self.calls.append(best())
        self.expected.append(self.wood.best())

    def make(self):
        for _ in range(self.chance.randint(0, 2)):
            self.add_begins()
            for _ in range(self.chance.randint(0, 9)):
                self.chance.choice([self.add_tree] * 6 + [self.add_near])()
            self.add_near()
            self.add_best()
        for _ in range(self.chance.randint(0, 5)):
            self.chance.choice([self.add_tree, self.add_near])()
        self.add_best()


class AgainstThePlainWood(unittest.TestCase):
    def test_many_lines(self):
        for seed in range(300):
            maker = LineMaker(seed)
            maker.make()
            with self.subTest(seed=seed):
                self.assertEqual(ask(*maker.calls), maker.expected)


if __name__ == "__main__":
    unittest.main()
