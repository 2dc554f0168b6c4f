import unittest

from lines import ask, begins, best, last, near, tree


class Best(unittest.TestCase):
    def test_no_trees(self):
        self.assertEqual(last(begins((2000, 0)), best()), [0, 1])
        self.assertEqual(last(begins((2000, 0), (0, 0), (7, 0)), best()), [0, 1])

    def test_one_tree_at_its_best_time(self):
        for time in range(4):
            worths = [5] * 4
            worths[time] = 6
            with self.subTest(time=time):
                self.assertEqual(last(begins((0, 0), (0, 0), (0, 0)), tree(1, 1, *worths), best()), [6, 1, time])

    def test_of_two_too_near_one_goes(self):
        self.assertEqual(last(begins((10, 0)), tree(0, 0, 2, 9), tree(0, 5, 3, 8), best()), [12, 1, 1, 0])

    def test_too_near_for_a_later_thinning_only(self):
        found = last(begins((5, 0), (10, 0)), tree(0, 0, 0, 3, 9), tree(0, 7, 1, 4, 9), best())
        self.assertEqual(found, [13, 1, 2, 1])

    def test_too_near_for_the_first_thinning_only(self):
        found = last(begins((10, 0), (5, 0)), tree(0, 0, 0, 3, 9), tree(0, 7, 1, 4, 9), best())
        self.assertEqual(found, [10, 1, 2, 0])

    def test_just_as_far_apart_as_the_gap(self):
        self.assertEqual(last(begins((5, 0)), tree(0, 0, 0, 9), tree(3, 4, 0, 9), best()), [18, 1, 1, 1])
        self.assertEqual(last(begins((6, 0)), tree(0, 0, 0, 9), tree(3, 4, 0, 9), best()), [9, 2, 0, 1])

    def test_two_at_one_place(self):
        self.assertEqual(last(begins((0, 2)), tree(3, 3, 9, 1), tree(3, 3, 9, 1), best()), [2, 1, 1, 1])
        self.assertEqual(last(begins((1, 1)), tree(3, 3, 9, 1), tree(3, 3, 9, 1), best()), [10, 2, 0, 1])
        self.assertEqual(last(begins((1, 2)), tree(3, 3, 9, 1), tree(3, 3, 9, 1), best()), [-6])

    def test_some_have_to_stay(self):
        found = last(begins((0, 2)), tree(0, 0, 9, 1), tree(0, 0, 9, 2), tree(0, 0, 9, 3), best())
        self.assertEqual(found, [14, 1, 0, 1, 1])

    def test_more_have_to_stay_at_first_than_at_last(self):
        found = last(begins((0, 2), (0, 1)), tree(0, 0, 9, 4, 1), tree(0, 0, 9, 5, 1), tree(0, 0, 9, 3, 1), best())
        self.assertEqual(found, [15, 2, 0, 1, 2])

    def test_more_have_to_stay_at_last_than_at_first(self):
        found = last(begins((0, 0), (0, 2)), tree(0, 0, 9, 4, 1), tree(0, 0, 9, 5, 2), tree(0, 0, 9, 3, 3), best())
        self.assertEqual(found, [14, 1, 0, 2, 2])

    def test_how_many_stay_may_be_more_than_have_to(self):
        self.assertEqual(last(begins((0, 1)), *[tree(0, 0, 1, 2)] * 3, best()), [6, 1, 1, 1, 1])

    def test_all_seven_have_to_stay(self):
        seven = [tree(0, 0, 1000000, i) for i in range(7)]
        self.assertEqual(last(begins((0, 7)), *seven, best()), [21, 1, 1, 1, 1, 1, 1, 1, 1])
        self.assertEqual(last(begins((0, 7)), *seven[:6], best()), [-6])

    def test_several_plans_worth_as_much(self):
        self.assertEqual(last(begins((0, 0)), tree(0, 0, 4, 4), best()), [4, 2, 0])
        self.assertEqual(last(begins((0, 0)), tree(0, 0, 4, 4), tree(0, 0, 1, 3), best()), [7, 2, 0, 1])
        # Only the first to differ counts: 0 then 2 is earlier than 1 then 0.
        found = last(begins((9, 1), (9, 1)), tree(0, 0, 3, 3, 5), tree(0, 0, 3, 3, 5), best())
        self.assertEqual(found, [8, 2, 0, 2])

    def test_all_plans_worth_as_much(self):
        seven = [tree(0, 0, 0, 0, 0, 0)] * 7
        self.assertEqual(last(begins((0, 0), (0, 0), (0, 0)), *seven, best()), [0, 4 ** 7] + [0] * 7)

    def test_plans_that_break_the_rules_are_not_counted(self):
        # Of seven at one place at most one stays, and one has to: seven to choose from.
        seven = [tree(4, 4, 1, 1)] * 7
        self.assertEqual(last(begins((1, 1)), *seven, best()), [7, 7, 0, 0, 0, 0, 0, 0, 1])

    def test_the_greatest_worths(self):
        seven = [tree(0, 0, 0, 0, 0, 1000000)] * 7
        self.assertEqual(last(begins((0, 0), (0, 0), (0, 0)), *seven, best()), [7000000, 1] + [3] * 7)

    def test_the_greatest_gap_leaves_one(self):
        found = last(begins((2000, 0)), tree(0, 0, 0, 5), tree(1000, 1000, 0, 6), tree(0, 1000, 0, 5), best())
        self.assertEqual(found, [6, 1, 0, 1, 0])

    def test_no_plan_keeps_the_rules(self):
        self.assertEqual(last(begins((0, 1)), best()), [-6])
        self.assertEqual(last(begins((0, 0), (0, 0), (0, 1)), best()), [-6])
        self.assertEqual(last(begins((0, 0), (0, 2)), tree(0, 0, 1, 1, 1), best()), [-6])
        self.assertEqual(last(begins((10, 2)), tree(0, 0, 1, 1), tree(0, 9, 1, 1), best()), [-6])

    def test_all_is_as_it_was_after_a_refusal(self):
        found = ask(begins((10, 2)), tree(0, 0, 1, 2), best(), tree(0, 9, 3, 4), best(), near(0), tree(0, 50, 5, 5),
                    best())
        self.assertEqual(found[2:], [[-6], [1], [-6], [1, 0, 1], [2], [10, 2, 0, 1, 1]])

    def test_best_changes_nothing(self):
        found = ask(begins((10, 0)), tree(0, 0, 1, 2), tree(0, 9, 3, 4), best(), best(), near(0), tree(0, 50, 5, 5))
        self.assertEqual(found[3:], [[5, 2, 0, 1], [5, 2, 0, 1], [1, 0, 1], [2]])


if __name__ == "__main__":
    unittest.main()
