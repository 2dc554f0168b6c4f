"""A wood and the calls on it."""

from treethinning.plans import (
    Thinning, Tree, best_plans, first_fault, lawful_plans, near_pairs, plan_worth, plans_with_time,
)

BEGINS = 0
TREE = 1
NEAR = 2
BEST = 3
CHECK = 4
KEEP = 5
WHEN = 6

NOT_AS_TOLD = -1
NO_SUCH_NUMBER = -2
TREE_CANNOT_STAY = -3
WOOD_IS_FULL = -5
RULES_NOT_KEPT = -6

MOST_THINNINGS = 3
MOST_TREES = 7
GREATEST_GAP = 2000
GREATEST_PLACE = 1000
GREATEST_WORTH = 1000000


class UnknownCall(ValueError):
    pass


def thinnings_from(numbers):
    return [Thinning(numbers[k], numbers[k + 1]) for k in range(0, len(numbers), 2)]


def thinnings_as_told(thinnings):
    if len(thinnings) < 1 or len(thinnings) > MOST_THINNINGS:
        return False
    for thinning in thinnings:
        if thinning.gap > GREATEST_GAP or thinning.needed > MOST_TREES:
            return False
    return True


def tree_as_told(tree, thinnings):
    if tree.first > GREATEST_PLACE or tree.second > GREATEST_PLACE:
        return False
    if len(tree.worths) != len(thinnings) + 1:
        return False
    for worth in tree.worths:
        if worth > GREATEST_WORTH:
            return False
    return True


def plan_as_told(plan, thinnings, trees):
    if len(plan) != len(trees):
        return False
    for time in plan:
        if time > len(thinnings):
            return False
    return True


class Wood:
    def __init__(self):
        self.thinnings = [Thinning(0, 0)]
        self.trees = []

    def begin(self, numbers):
        thinnings = thinnings_from(numbers)
        if not thinnings_as_told(thinnings):
            return [NOT_AS_TOLD]
        self.thinnings = thinnings
        self.trees = []
        return [len(thinnings)]

    def plant(self, numbers):
        tree = Tree(numbers[0], numbers[1], numbers[2:])
        if not tree_as_told(tree, self.thinnings):
            return [NOT_AS_TOLD]
        if len(self.trees) == MOST_TREES:
            return [WOOD_IS_FULL]
        self.trees.append(tree)
        return [len(self.trees) - 1]

    def near(self, number):
        if number >= len(self.thinnings):
            return [NO_SUCH_NUMBER]
        pairs = near_pairs(self.trees, self.thinnings[number].gap)
        answer = [len(pairs)]
        for pair in pairs:
            answer.extend(pair)
        return answer

    def best(self):
        best = best_plans(self.trees, lawful_plans(self.thinnings, self.trees))
        if len(best) == 0:
            return [RULES_NOT_KEPT]
        return [plan_worth(self.trees, best[0]), len(best)] + list(best[0])

    def check(self, plan):
        if not plan_as_told(plan, self.thinnings, self.trees):
            return [NOT_AS_TOLD]
        fault = first_fault(self.thinnings, self.trees, plan)
        if len(fault) > 0:
            return [RULES_NOT_KEPT] + fault
        return [plan_worth(self.trees, plan)]

    def keep(self, number):
        if number >= len(self.trees):
            return [NO_SUCH_NUMBER]
        plans = lawful_plans(self.thinnings, self.trees)
        if len(plans) == 0:
            return [RULES_NOT_KEPT]
        kept = best_plans(self.trees, plans_with_time(plans, number, len(self.thinnings)))
        if len(kept) == 0:
            return [TREE_CANNOT_STAY]
        most = plan_worth(self.trees, best_plans(self.trees, plans)[0])
        return [most - plan_worth(self.trees, kept[0]), len(kept)] + list(kept[0])

    def when(self, number):
        if number >= len(self.trees):
            return [NO_SUCH_NUMBER]
        best = best_plans(self.trees, lawful_plans(self.thinnings, self.trees))
        if len(best) == 0:
            return [RULES_NOT_KEPT]
        counts = [len(plans_with_time(best, number, time)) for time in range(len(self.thinnings) + 1)]
        return [len(best)] + counts


def answer_to(wood, call, numbers):
    if call == BEGINS:
        return wood.begin(numbers)
    if call == TREE:
        return wood.plant(numbers)
    if call == NEAR:
        return wood.near(numbers[0])
    if call == BEST:
        return wood.best()
    if call == CHECK:
        return wood.check(numbers)
    if call == KEEP:
        return wood.keep(numbers[0])
    if call == WHEN:
        return wood.when(numbers[0])
    raise UnknownCall(f"no call has the number {call}")


def answers(calls):
    wood = Wood()
    given = []
    start = 0
    while start < len(calls):
        # A slice is a copy, so that nothing done with it changes what was handed in.
        end = start + 2 + calls[start + 1]
        answer = answer_to(wood, calls[start], calls[start + 2:end])
        given.append(len(answer))
        given.extend(answer)
        # Behind a call's numbers stands how many lists it has: always 0, so one number to pass over.
        start = end + 1
    return given
