"""Calls in the form in which they are handed in, and their answers apart from one another."""

from treethinning.wood import answers


def call(number, *numbers):
    return [number, len(numbers), *numbers, 0]


def begins(*thinnings):
    return call(0, *[number for thinning in thinnings for number in thinning])


def tree(first, second, *worths):
    return call(1, first, second, *worths)


def near(j):
    return call(2, j)


def best():
    return call(3)


def check(*times):
    return call(4, *times)


def keep(i):
    return call(5, i)


def when(i):
    return call(6, i)


def line(*calls):
    return [number for one in calls for number in one]


def apart(given):
    """The answers, a list for each call."""
    found = []
    start = 0
    while start < len(given):
        end = start + 1 + given[start]
        if end > len(given):
            raise AssertionError(f"an answer is cut short: {given}")
        found.append(given[start + 1:end])
        start = end
    return found


def ask(*calls):
    return apart(answers(line(*calls)))


def last(*calls):
    """The answer to the last call, once it is sure that each call had an answer."""
    found = ask(*calls)
    if len(found) != len(calls):
        raise AssertionError(f"{len(calls)} calls, {len(found)} answers")
    return found[-1]
