"""Thinnings, trees and plans: what keeps the rules, and what it is worth.

A plan has a time for each tree, in their order.
"""


class Thinning:
    def __init__(self, gap, needed):
        self.gap = gap
        self.needed = needed


class Tree:
    def __init__(self, first, second, worths):
        self.first = first
        self.second = second
        self.worths = worths


def too_near(tree, other, gap):
    across = tree.first - other.first
    along = tree.second - other.second
    # Squares are compared, so that no root has to be drawn.
    return across * across + along * along < gap * gap


def near_pairs(trees, gap):
    pairs = []
    for low in range(len(trees)):
        for high in range(low + 1, len(trees)):
            if too_near(trees[low], trees[high], gap):
                pairs.append((low, high))
    return pairs


def first_too_near(thinnings, tree, other):
    """The first thinning for which the two are too near, or, if there is none, how many thinnings there are."""
    for number, thinning in enumerate(thinnings):
        if too_near(tree, other, thinning.gap):
            return number
    return len(thinnings)


def has_room(plan, time, limits):
    """Whether one more tree may have this time. limits tells, for each tree of the plan, its first_too_near with it."""
    for planned, limit in zip(plan, limits):
        # Two that stay behind a later thinning stay behind the earlier ones too, so the first one alone is asked.
        if planned > limit and time > limit:
            return False
    return True


def longer_plans(plans, limits, last_time):
    longer = []
    for plan in plans:
        for time in range(last_time + 1):
            if has_room(plan, time, limits):
                longer.append(plan + (time,))
    return longer


def spaced_plans(thinnings, trees):
    """The plans in which no two that stay are too near, the earlier ones first."""
    plans = [()]
    for number, tree in enumerate(trees):
        limits = [first_too_near(thinnings, other, tree) for other in trees[:number]]
        plans = longer_plans(plans, limits, len(thinnings))
    return plans


def how_many_stay(plan, number):
    return len([time for time in plan if time > number])


def enough_stay(thinnings, plan):
    for number, thinning in enumerate(thinnings):
        if how_many_stay(plan, number) < thinning.needed:
            return False
    return True


def fault_behind(thinning, number, trees, plan):
    """What is wrong behind this thinning: the first pair too near that stays, else how many stay; or nothing."""
    for low, high in near_pairs(trees, thinning.gap):
        if plan[low] > number and plan[high] > number:
            return [low, high]
    stay = how_many_stay(plan, number)
    if stay < thinning.needed:
        return [stay]
    return []


def first_fault(thinnings, trees, plan):
    """The first thinning behind which something is wrong, then what; nothing if the plan keeps the rules."""
    for number, thinning in enumerate(thinnings):
        fault = fault_behind(thinning, number, trees, plan)
        if len(fault) > 0:
            return [number] + fault
    return []


def lawful_plans(thinnings, trees):
    """The plans that keep the rules, the earlier ones first."""
    return [plan for plan in spaced_plans(thinnings, trees) if enough_stay(thinnings, plan)]


def plan_worth(trees, plan):
    total = 0
    for tree, time in zip(trees, plan):
        total += tree.worths[time]
    return total


def best_plans(trees, plans):
    """Those of the plans that are worth most, in the order in which they were handed in."""
    most = 0
    best = []
    for plan in plans:
        worth = plan_worth(trees, plan)
        if worth > most:
            most = worth
            best = []
        if worth == most:
            best.append(plan)
    return best


def plans_with_time(plans, number, time):
    """Those of the plans in which the tree of this number has this time, in the order in which they were handed in."""
    return [plan for plan in plans if plan[number] == time]
