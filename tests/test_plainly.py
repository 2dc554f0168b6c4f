import collections
import random
import unittest

from lines import ask, begins, best, check, keep, near, tree, when
from plainly import PlainWood


class LineMaker:
    """Makes calls by chance, from a seed, and notes what the plain wood answers to each."""

    def __init__(self, seed):
        self.chance = random.Random(seed)
        self.wood = PlainWood()
        self.calls = []
        self.expected = []
        # A line has at most 8 calls of best, keep and when together.
        self.searches_left = 8

    def add(self, one, answer):
        self.calls.append(one)
        self.expected.append(answer)

    def number(self, greatest):
        """Often an edge, seldom beyond it."""
        return self.chance.choice([0, greatest] + [self.chance.randint(0, greatest)] * 20 + [greatest + 1] * (
            self.chance.random() < 0.05))

    def add_begins(self):
        many = self.chance.choice([0, 1, 1, 2, 2, 2, 3, 3, 3, 4, 5])
        top = self.chance.choice([10, 500, 2000])
        thinnings = [(self.number(top), self.number(self.chance.choice([0, 1, 2, 7]))) for _ in range(many)]
        self.add(begins(*thinnings), self.wood.begins(thinnings))

    def add_tree(self):
        span = self.chance.choice([5, 10, 1000])
        place = (self.number(span), self.number(span))
        many = self.chance.choice([len(self.wood.thinnings) + 1] * 12 + [0, 1, 2, 3, 4, 5, 6])
        most = self.chance.choice([1, 3, 1000000])
        worths = [self.number(most) for _ in range(many)]
        self.add(tree(*place, *worths), self.wood.tree(place, worths))

    def add_crowd(self):
        """Trees in a row with room for two or three, of which two have to stay: those in the middle often can't."""
        thinnings = [(self.chance.randint(5, 9), 2) for _ in range(self.chance.randint(1, 3))]
        self.add(begins(*thinnings), self.wood.begins(thinnings))
        for _ in range(self.chance.randint(2, 5)):
            place = (self.chance.randint(0, 14), 0)
            worths = [self.number(3) for _ in range(len(thinnings) + 1)]
            self.add(tree(*place, *worths), self.wood.tree(place, worths))

    def add_near(self):
        j = self.chance.randint(0, 3)
        self.add(near(j), self.wood.near(j))

    def add_check(self):
        many = max(0, len(self.wood.trees) + self.chance.choice([0] * 20 + [-1, 1]))
        times = [self.number(len(self.wood.thinnings)) for _ in range(many)]
        self.add(check(*times), self.wood.check(times))

    def add_search(self):
        if self.searches_left == 0:
            return
        self.searches_left -= 1
        i = self.chance.randint(0, len(self.wood.trees))
        self.chance.choice([
            lambda: self.add(best(), self.wood.best()),
            lambda: self.add(keep(i), self.wood.keep(i)),
            lambda: self.add(when(i), self.wood.when(i)),
        ])()

    def make(self):
        for _ in range(self.chance.randint(0, 2)):
            self.add_begins()
            for _ in range(self.chance.randint(0, 9)):
                self.chance.choice([self.add_tree] * 6 + [self.add_near, self.add_check])()
            self.add_near()
            for _ in range(3):
                self.add_check()
                self.add_search()
        if self.chance.random() < 0.5:
            self.add_crowd()
            self.add_search()
            self.add_search()
        for _ in range(self.chance.randint(0, 5)):
            self.chance.choice([self.add_tree, self.add_near, self.add_check])()
        self.add_check()
        self.add_search()
        self.add_search()


class AgainstThePlainWood(unittest.TestCase):
    def test_many_lines(self):
        seen = collections.Counter()
        for seed in range(500):
            maker = LineMaker(seed)
            maker.make()
            self.assertLessEqual(len(maker.calls), 60)
            for one, answer in zip(maker.calls, maker.expected):
                seen[one[0], min(answer[0], 0), len(answer) if one[0] == 4 else 0] += 1
            with self.subTest(seed=seed):
                self.assertEqual(ask(*maker.calls), maker.expected)
        # Each kind of answer to check, keep and when is to be among them, or the lines would show little.
        for kind in ((4, 0, 1), (4, -1, 1), (4, -6, 3), (4, -6, 4), (5, 0, 0), (5, -2, 0), (5, -3, 0), (5, -6, 0),
                     (6, 0, 0), (6, -2, 0), (6, -6, 0)):
            self.assertGreaterEqual(seen[kind], 10, kind)


if __name__ == "__main__":
    unittest.main()
