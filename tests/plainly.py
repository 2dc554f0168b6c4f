"""The document's words done one by one, with no thought for speed: what the program is held against."""

from itertools import combinations, product


class PlainWood:
    def __init__(self):
        self.thinnings = [(0, 0)]
        self.trees = []

    def begins(self, thinnings):
        if not 1 <= len(thinnings) <= 3:
            return [-1]
        if any(gap not in range(2001) or needed not in range(8) for gap, needed in thinnings):
            return [-1]
        self.thinnings, self.trees = list(thinnings), []
        return [len(thinnings)]

    def tree(self, place, worths):
        if any(number not in range(1001) for number in place):
            return [-1]
        if len(worths) != len(self.thinnings) + 1 or any(worth not in range(1000001) for worth in worths):
            return [-1]
        if len(self.trees) >= 7:
            return [-5]
        self.trees.append((place, worths))
        return [len(self.trees) - 1]

    def too_near(self, low, high, j):
        (a, b), (c, d) = self.trees[low][0], self.trees[high][0]
        return (a - c) ** 2 + (b - d) ** 2 < self.thinnings[j][0] ** 2

    def near(self, j):
        if j >= len(self.thinnings):
            return [-2]
        pairs = [pair for pair in combinations(range(len(self.trees)), 2) if self.too_near(*pair, j)]
        return [len(pairs)] + [number for pair in pairs for number in pair]

    def stay(self, plan, j):
        return [i for i, time in enumerate(plan) if time > j]

    def keeps_the_rules(self, plan):
        for j, (_, needed) in enumerate(self.thinnings):
            stay = self.stay(plan, j)
            if len(stay) < needed or any(self.too_near(*pair, j) for pair in combinations(stay, 2)):
                return False
        return True

    def worth(self, plan):
        return sum(self.trees[i][1][time] for i, time in enumerate(plan))

    def plans(self):
        times = range(len(self.thinnings) + 1)
        return [plan for plan in product(times, repeat=len(self.trees)) if self.keeps_the_rules(plan)]

    def as_good_as_the_best_of(self, plans):
        most = max(map(self.worth, plans))
        return most, [plan for plan in plans if self.worth(plan) == most]

    def best(self):
        plans = self.plans()
        if not plans:
            return [-6]
        most, as_good = self.as_good_as_the_best_of(plans)
        return [most, len(as_good), *min(as_good)]

    def check(self, plan):
        if len(plan) != len(self.trees) or any(time not in range(len(self.thinnings) + 1) for time in plan):
            return [-1]
        if self.keeps_the_rules(plan):
            return [self.worth(plan)]
        for j, (_, needed) in enumerate(self.thinnings):
            stay = self.stay(plan, j)
            pairs = sorted(pair for pair in combinations(stay, 2) if self.too_near(*pair, j))
            if pairs:
                return [-6, j, *pairs[0]]
            if len(stay) < needed:
                return [-6, j, len(stay)]
        raise AssertionError(f"{plan} breaks the rules behind no thinning")

    def keep(self, i):
        if i >= len(self.trees):
            return [-2]
        plans = self.plans()
        if not plans:
            return [-6]
        staying = [plan for plan in plans if plan[i] == len(self.thinnings)]
        if not staying:
            return [-3]
        most, _ = self.as_good_as_the_best_of(plans)
        less, as_good = self.as_good_as_the_best_of(staying)
        return [most - less, len(as_good), *min(as_good)]

    def when(self, i):
        if i >= len(self.trees):
            return [-2]
        plans = self.plans()
        if not plans:
            return [-6]
        _, as_good = self.as_good_as_the_best_of(plans)
        times = [plan[i] for plan in as_good]
        return [len(as_good)] + [times.count(time) for time in range(len(self.thinnings) + 1)]
