import unittest

from lines import ask, begins, best, check, keep, last, near, tree, when

HUGE = 4294967295


class When(unittest.TestCase):
    def test_one_best_plan(self):
        three = [tree(0, 0, 9, 1, 1), tree(0, 0, 1, 9, 1), tree(0, 0, 1, 1, 9)]
        found = ask(begins((0, 0), (0, 0)), *three, when(0), when(1), when(2))
        self.assertEqual(found[4:], [[1, 1, 0, 0], [1, 0, 1, 0], [1, 0, 0, 1]])

    def test_a_number_for_each_time(self):
        for thinnings in (1, 2, 3):
            with self.subTest(thinnings=thinnings):
                found = last(begins(*[(0, 0)] * thinnings), tree(0, 0, *[5] * (thinnings + 1)), when(0))
                self.assertEqual(found, [thinnings + 1] + [1] * (thinnings + 1))

    def test_several_plans_as_good(self):
        two = [tree(0, 0, 3, 3, 2), tree(0, 0, 4, 4, 4)]
        found = ask(begins((0, 0), (0, 0)), *two, when(0), when(1))
        self.assertEqual(found[3:], [[6, 3, 3, 0], [6, 2, 2, 2]])

    def test_times_of_several_trees_hang_together(self):
        # Too near, and one has to stay: one of the two stays, the other goes at 0 or 1.
        found = ask(begins((0, 0), (9, 1)), tree(0, 0, 3, 3, 5), tree(0, 0, 3, 3, 5), best(), when(0), when(1))
        self.assertEqual(found[3:], [[8, 4, 0, 2], [4, 1, 1, 2], [4, 1, 1, 2]])

    def test_plans_that_break_the_rules_are_not_counted(self):
        # One of seven stays.
        found = ask(begins((1, 1)), *[tree(4, 4, 1, 1)] * 7, when(0), when(6))
        self.assertEqual(found[8:], [[7, 6, 1], [7, 6, 1]])

    def test_plans_worth_less_are_not_counted(self):
        found = ask(begins((10, 0)), tree(0, 0, 2, 9), tree(0, 5, 3, 8), when(0), when(1))
        self.assertEqual(found[3:], [[1, 0, 1], [1, 1, 0]])

    def test_all_plans_as_good(self):
        seven = [tree(0, 0, 0, 0, 0, 0)] * 7
        self.assertEqual(last(begins((0, 0), (0, 0), (0, 0)), *seven, when(3)), [4 ** 7] + [4 ** 6] * 4)

    def test_before_any_begins(self):
        self.assertEqual(ask(when(0), tree(1, 1, 7, 7), when(0), when(1)), [[-2], [0], [2, 1, 1], [-2]])


class WhenRefused(unittest.TestCase):
    def test_no_such_tree(self):
        self.assertEqual(ask(begins((0, 0)), when(0), when(1), when(HUGE))[1:], [[-2], [-2], [-2]])
        found = ask(begins((0, 0)), *[tree(0, 0, 1, 2)] * 7, when(6), when(7), when(8), when(HUGE))
        self.assertEqual(found[8:], [[1, 0, 1], [-2], [-2], [-2]])

    def test_no_plan_keeps_the_rules(self):
        self.assertEqual(last(begins((0, 2)), tree(0, 0, 1, 1), when(0)), [-6])
        self.assertEqual(last(begins((10, 2)), tree(0, 0, 1, 1), tree(0, 9, 1, 1), when(1)), [-6])

    def test_no_such_tree_goes_ahead_of_no_plan(self):
        self.assertEqual(ask(begins((0, 2)), tree(0, 0, 1, 1), when(1), when(0), when(HUGE))[2:], [[-2], [-6], [-2]])
        self.assertEqual(last(begins((0, 1)), when(0)), [-2])

    def test_a_tree_that_can_not_stay_is_no_refusal(self):
        row = [tree(0, 0, 1, 1), tree(6, 0, 1, 9), tree(12, 0, 1, 1)]
        self.assertEqual(ask(begins((10, 2)), *row, keep(1), when(1))[4:], [[-3], [1, 1, 0]])


class WhenChangesNothing(unittest.TestCase):
    def test_all_is_as_it_was_after_when(self):
        for i, answer in ((0, [2, 1, 1]), (1, [2, 1, 1]), (2, [-2]), (HUGE, [-2])):
            with self.subTest(i=i):
                found = ask(begins((10, 1)), tree(0, 0, 1, 4), tree(0, 9, 1, 4), when(i), when(i), near(0), near(1),
                            best(), keep(1), check(1, 0), tree(0, 50, 5, 5), when(2))
                self.assertEqual(found[3:5], [answer, answer])
                self.assertEqual(found[5:], [[1, 0, 1], [-2], [5, 2, 0, 1], [0, 1, 0, 1], [5], [2], [4, 2, 2]])

    def test_all_is_as_it_was_after_no_plan(self):
        found = ask(begins((10, 2)), tree(0, 0, 1, 2), when(0), near(0), tree(0, 9, 3, 4), when(1), near(0),
                    tree(0, 50, 5, 5), when(1))
        self.assertEqual(found[2:], [[-6], [0], [1], [-6], [1, 0, 1], [2], [2, 1, 1]])


if __name__ == "__main__":
    unittest.main()
