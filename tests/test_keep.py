import unittest

from lines import ask, begins, best, check, keep, last, near, tree, when

HUGE = 4294967295


class Keep(unittest.TestCase):
    def test_a_tree_that_stays_anyway_costs_nothing(self):
        found = ask(begins((10, 0)), tree(0, 0, 2, 9), tree(0, 5, 3, 8), best(), keep(0))
        self.assertEqual(found[3:], [[12, 1, 1, 0], [0, 1, 1, 0]])

    def test_a_tree_whose_staying_costs_something(self):
        # 9 and 3 are better by 2 than 2 and 8.
        self.assertEqual(last(begins((10, 0)), tree(0, 0, 2, 9), tree(0, 5, 3, 8), keep(1)), [2, 1, 0, 1])

    def test_one_tree(self):
        self.assertEqual(last(begins((0, 0)), tree(0, 0, 7, 3), keep(0)), [4, 1, 1])
        self.assertEqual(last(begins((0, 0)), tree(0, 0, 3, 7), keep(0)), [0, 1, 1])
        self.assertEqual(last(begins((0, 0)), tree(0, 0, 5, 5), keep(0)), [0, 1, 1])

    def test_it_stays_behind_all_thinnings(self):
        # Time 2 is behind thinnings 0 and 1, but not behind thinning 2.
        self.assertEqual(last(begins((0, 0), (0, 0), (0, 0)), tree(0, 0, 1, 2, 9, 4), keep(0)), [5, 1, 3])

    def test_its_staying_sends_others_away(self):
        row = [tree(0, 0, 1, 20), tree(9, 0, 2, 3), tree(18, 0, 4, 30)]
        found = ask(begins((10, 0)), *row, best(), keep(0), keep(1), keep(2))
        self.assertEqual(found[4:], [[52, 1, 1, 0, 1], [0, 1, 1, 0, 1], [44, 1, 0, 1, 0], [0, 1, 1, 0, 1]])

    def test_the_others_are_taken_when_it_is_best(self):
        row = [tree(0, 0, 1, 6, 20), tree(9, 0, 2, 3, 4), tree(18, 0, 8, 5, 30)]
        # For thinning 0 they have room; tree 1 stays, so the others are taken at thinning 1 or before.
        found = ask(begins((9, 0), (10, 0)), *row, best(), keep(1))
        self.assertEqual(found[4:], [[53, 1, 2, 1, 2], [53 - 18, 1, 1, 2, 0]])

    def test_several_plans_worth_as_much_and_the_earliest_of_them(self):
        # Tree 1 stays, so of trees 0 and 2 each is taken at 0 or 1, worth as much.
        three = [tree(0, 0, 3, 3, 5), tree(0, 0, 3, 3, 4), tree(0, 0, 3, 3, 3)]
        found = ask(begins((0, 0), (9, 1)), *three, best(), keep(1))
        self.assertEqual(found[4:], [[11, 4, 2, 0, 0], [1, 4, 0, 2, 0]])

    def test_how_many_counts_only_plans_in_which_it_stays(self):
        found = ask(begins((0, 0)), tree(0, 0, 4, 4), tree(0, 0, 4, 4), best(), keep(0), keep(1))
        self.assertEqual(found[3:], [[8, 4, 0, 0], [0, 2, 1, 0], [0, 2, 0, 1]])

    def test_plans_that_break_the_rules_are_not_counted(self):
        # Only one of the three may stay, and one has to: if it's tree 1, the others go.
        three = [tree(4, 4, 1, 1)] * 3
        self.assertEqual(last(begins((1, 1)), *three, keep(1)), [0, 1, 0, 1, 0])
        # Two have to stay: one beside tree 1.
        self.assertEqual(last(begins((0, 2)), *[tree(4, 4, 9, 1)] * 3, keep(1)), [0, 2, 0, 1, 1])

    def test_a_great_difference(self):
        # The one in the middle is too near to all four corners, which are far enough from one another.
        corners = [tree(first, second, 0, 1000000) for first in (0, 1000) for second in (0, 1000)]
        found = last(begins((1000, 0)), tree(500, 500, 1000000, 0), *corners, keep(0))
        self.assertEqual(found, [5000000, 1, 1, 0, 0, 0, 0])

    def test_before_any_begins(self):
        found = ask(keep(0), tree(1, 1, 7, 2), keep(0), keep(1))
        self.assertEqual(found, [[-2], [0], [5, 1, 1], [-2]])


class KeepRefused(unittest.TestCase):
    def test_no_such_tree(self):
        self.assertEqual(ask(begins((0, 0)), keep(0), keep(1), keep(HUGE))[1:], [[-2], [-2], [-2]])
        found = ask(begins((0, 0)), *[tree(0, 0, 1, 1)] * 7, keep(6), keep(7), keep(8), keep(HUGE))
        self.assertEqual(found[8:], [[0, 2 ** 6, 0, 0, 0, 0, 0, 0, 1], [-2], [-2], [-2]])

    def test_no_plan_keeps_the_rules(self):
        self.assertEqual(last(begins((0, 2)), tree(0, 0, 1, 1), keep(0)), [-6])
        self.assertEqual(last(begins((10, 2)), tree(0, 0, 1, 1), tree(0, 9, 1, 1), keep(1)), [-6])

    def test_no_plan_in_which_it_stays(self):
        # Two have to stay, and the one in the middle is too near to both others.
        row = [tree(0, 0, 1, 1), tree(6, 0, 1, 9), tree(12, 0, 1, 1)]
        found = ask(begins((10, 2)), *row, keep(0), keep(1), keep(2))
        self.assertEqual(found[4:], [[0, 1, 1, 0, 1], [-3], [0, 1, 1, 0, 1]])

    def test_it_may_stay_for_a_while_but_not_to_the_end(self):
        row = [tree(0, 0, 1, 1, 1), tree(6, 0, 1, 9, 9), tree(12, 0, 1, 1, 1)]
        self.assertEqual(last(begins((0, 3), (10, 2)), *row, keep(1)), [-3])
        self.assertEqual(last(begins((0, 3), (10, 2)), *row, best()), [11, 1, 2, 1, 2])

    def test_no_such_tree_goes_ahead_of_no_plan(self):
        self.assertEqual(ask(begins((0, 2)), tree(0, 0, 1, 1), keep(1), keep(0), keep(HUGE))[2:], [[-2], [-6], [-2]])
        self.assertEqual(last(begins((0, 1)), keep(0)), [-2])


class KeepChangesNothing(unittest.TestCase):
    def test_all_is_as_it_was_after_keep(self):
        row = [tree(0, 0, 1, 1), tree(6, 0, 1, 9), tree(12, 0, 1, 2)]
        for i, answer in ((0, [0, 1, 1, 0, 1]), (1, [-3]), (2, [0, 1, 1, 0, 1]), (3, [-2]), (HUGE, [-2])):
            with self.subTest(i=i):
                found = ask(begins((10, 2)), *row, keep(i), keep(i), near(0), near(1), best(), when(1), check(1, 0, 1),
                            tree(500, 0, 1, 1), keep(1))
                self.assertEqual(found[4:6], [answer, answer])
                self.assertEqual(found[6:], [[2, 0, 1, 1, 2], [-2], [4, 1, 1, 0, 1], [1, 1, 0], [4], [3],
                                             [0, 1, 0, 1, 0, 1]])

    def test_all_is_as_it_was_after_no_plan(self):
        found = ask(begins((10, 2)), tree(0, 0, 1, 2), keep(0), near(0), tree(0, 9, 3, 4), keep(1), near(0),
                    tree(0, 50, 5, 5), keep(1))
        self.assertEqual(found[2:], [[-6], [0], [1], [-6], [1, 0, 1], [2], [0, 1, 0, 1, 1]])


if __name__ == "__main__":
    unittest.main()
