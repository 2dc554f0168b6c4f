import unittest

from lines import ask, begins, best, check, last, near, tree

HUGE = 4294967295

# Places on one line: 0 and 1 are 5 apart, 1 and 2 are 7 apart, 0 and 2 are 12 apart.
THREE = (tree(0, 0, 1, 10, 100), tree(0, 5, 2, 20, 200), tree(0, 12, 3, 30, 300))


class PlansThatKeepTheRules(unittest.TestCase):
    def test_what_it_is_worth_alone(self):
        self.assertEqual(last(begins((5, 0), (5, 0)), *THREE, check(2, 2, 2)), [600])
        self.assertEqual(last(begins((5, 0), (5, 0)), *THREE, check(0, 1, 2)), [321])
        self.assertEqual(last(begins((5, 0), (5, 0)), *THREE, check(2, 0, 1)), [132])
        self.assertEqual(last(begins((5, 0), (5, 0)), *THREE, check(0, 0, 0)), [6])

    def test_it_need_not_be_the_best(self):
        found = ask(begins((0, 0)), tree(0, 0, 4, 9), check(0), check(1), best())
        self.assertEqual(found[2:], [[4], [9], [9, 1, 1]])

    def test_worth_nothing(self):
        self.assertEqual(last(begins((0, 1)), tree(0, 0, 0, 0), check(1)), [0])

    def test_the_greatest_worths(self):
        seven = [tree(0, 0, 0, 0, 0, 1000000)] * 7
        self.assertEqual(last(begins((0, 7), (0, 7), (0, 7)), *seven, check(*[3] * 7)), [7000000])

    def test_too_near_for_a_thinning_at_which_one_of_them_goes(self):
        # Behind thinning j those stay whose time is later: one taken at j doesn't.
        self.assertEqual(last(begins((6, 0), (6, 0)), *THREE, check(0, 2, 2)), [501])
        self.assertEqual(last(begins((5, 0), (6, 0)), *THREE, check(1, 2, 2)), [510])
        self.assertEqual(last(begins((5, 0), (6, 0)), *THREE, check(2, 1, 2)), [420])

    def test_just_as_far_apart_as_the_gap(self):
        self.assertEqual(last(begins((5, 0)), tree(0, 0, 0, 4), tree(3, 4, 0, 5), check(1, 1)), [9])
        self.assertEqual(last(begins((6, 0)), tree(0, 0, 0, 4), tree(3, 4, 0, 5), check(1, 1)), [-6, 0, 0, 1])

    def test_just_as_many_stay_as_have_to(self):
        self.assertEqual(last(begins((0, 2), (0, 1)), *THREE, check(0, 1, 2)), [321])
        self.assertEqual(last(begins((0, 3), (0, 3)), *THREE, check(2, 2, 2)), [600])

    def test_no_trees_and_an_empty_plan(self):
        self.assertEqual(ask(check()), [[0]])
        self.assertEqual(last(begins((2000, 0), (2000, 0), (2000, 0)), check()), [0])

    def test_before_any_begins(self):
        found = ask(tree(1, 1, 3, 4), tree(1, 1, 5, 6), check(0, 1), check(1, 1), check(2, 0))
        self.assertEqual(found[2:], [[9], [10], [-1]])


class PlansThatBreakTheRules(unittest.TestCase):
    def test_a_pair_too_near_that_stays(self):
        self.assertEqual(last(begins((6, 0), (0, 0)), *THREE, check(2, 2, 2)), [-6, 0, 0, 1])
        self.assertEqual(last(begins((6, 0), (0, 0)), *THREE, check(1, 1, 0)), [-6, 0, 0, 1])
        self.assertEqual(last(begins((8, 0), (0, 0)), *THREE, check(0, 1, 2)), [-6, 0, 1, 2])
        self.assertEqual(last(begins((13, 0), (0, 0)), *THREE, check(2, 0, 1)), [-6, 0, 0, 2])

    def test_the_first_pair_by_the_lower_number_then_by_the_higher(self):
        row = [tree(first, 0, 1, 1) for first in (0, 500, 1, 501, 2)]
        # Too near are 0 and 2, 0 and 4, 1 and 3, 2 and 4.
        self.assertEqual(last(begins((10, 0)), *row, check(1, 1, 1, 1, 1)), [-6, 0, 0, 2])
        self.assertEqual(last(begins((10, 0)), *row, check(1, 1, 0, 1, 1)), [-6, 0, 0, 4])
        self.assertEqual(last(begins((10, 0)), *row, check(0, 1, 1, 1, 1)), [-6, 0, 1, 3])
        self.assertEqual(last(begins((10, 0)), *row, check(0, 0, 1, 1, 1)), [-6, 0, 2, 4])
        self.assertEqual(last(begins((10, 0)), *row, check(0, 0, 0, 1, 1)), [2 + 3])

    def test_too_few_that_stay(self):
        self.assertEqual(last(begins((0, 3), (0, 0)), *THREE, check(2, 0, 1)), [-6, 0, 2])
        self.assertEqual(last(begins((0, 1), (0, 0)), *THREE, check(0, 0, 0)), [-6, 0, 0])
        self.assertEqual(last(begins((0, 7), (0, 0)), *THREE, check(2, 2, 2)), [-6, 0, 3])

    def test_both_behind_one_thinning_tell_the_pair(self):
        self.assertEqual(last(begins((6, 3), (0, 0)), *THREE, check(2, 2, 0)), [-6, 0, 0, 1])
        self.assertEqual(last(begins((0, 0), (8, 3)), *THREE, check(1, 2, 2)), [-6, 1, 1, 2])

    def test_a_later_thinning_is_broken_first(self):
        none = (0, 0)
        three = [tree(0, 0, 1, 1, 1, 1), tree(0, 5, 1, 1, 1, 1), tree(0, 12, 1, 1, 1, 1)]
        self.assertEqual(last(begins(none, (6, 0), none), *three, check(3, 2, 3)), [-6, 1, 0, 1])
        self.assertEqual(last(begins(none, none, (6, 0)), *three, check(3, 3, 0)), [-6, 2, 0, 1])
        self.assertEqual(last(begins(none, (0, 2), none), *three, check(3, 1, 0)), [-6, 1, 1])
        self.assertEqual(last(begins((0, 2), (0, 1), (0, 1)), *three, check(2, 1, 0)), [-6, 2, 0])

    def test_the_first_of_several_thinnings_is_told(self):
        three = [tree(0, 0, 1, 1, 1, 1), tree(0, 5, 1, 1, 1, 1), tree(0, 12, 1, 1, 1, 1)]
        self.assertEqual(last(begins((0, 3), (0, 3), (0, 3)), *three, check(3, 3, 1)), [-6, 1, 2])
        self.assertEqual(last(begins((6, 0), (13, 0), (13, 0)), *three, check(3, 0, 3)), [-6, 1, 0, 2])
        # Too few behind an earlier thinning go ahead of a pair behind a later one, and the other way round.
        self.assertEqual(last(begins((0, 3), (6, 0), (0, 0)), *three, check(3, 3, 0)), [-6, 0, 2])
        self.assertEqual(last(begins((6, 0), (0, 3), (0, 0)), *three, check(3, 3, 0)), [-6, 0, 0, 1])

    def test_no_trees_where_some_have_to_stay(self):
        self.assertEqual(last(begins((0, 1)), check()), [-6, 0, 0])
        self.assertEqual(last(begins((0, 0), (0, 0), (0, 7)), check()), [-6, 2, 0])


class PlansNotAsTold(unittest.TestCase):
    def test_too_few_or_too_many_times(self):
        for many in range(11):
            if many != 3:
                with self.subTest(many=many):
                    self.assertEqual(last(begins((0, 0), (0, 0)), *THREE, check(*[2] * many)), [-1])

    def test_times_without_trees(self):
        self.assertEqual(ask(check(0), check(1), check(*[0] * 10)), [[-1], [-1], [-1]])

    def test_a_time_above_how_many_thinnings_there_are(self):
        for thinnings in (1, 2, 3):
            three = [tree(0, 0, *range(thinnings + 1))] * 3
            for where in range(3):
                for time in (thinnings + 1, thinnings + 2, HUGE):
                    times = [0] * 3
                    times[where] = time
                    with self.subTest(thinnings=thinnings, times=times):
                        self.assertEqual(last(begins(*[(0, 0)] * thinnings), *three, check(*times)), [-1])

    def test_a_time_just_as_many_as_there_are_thinnings(self):
        for thinnings in (1, 2, 3):
            one = tree(0, 0, *range(thinnings + 1))
            with self.subTest(thinnings=thinnings):
                self.assertEqual(last(begins(*[(0, 1)] * thinnings), one, check(thinnings)), [thinnings])

    def test_what_is_not_as_told_goes_ahead_of_broken_rules(self):
        self.assertEqual(last(begins((6, 7), (6, 7)), *THREE, check(2, 2)), [-1])
        self.assertEqual(last(begins((6, 7), (6, 7)), *THREE, check(2, 2, 2, 2)), [-1])
        self.assertEqual(last(begins((6, 7), (6, 7)), *THREE, check(2, 2, 3)), [-1])
        self.assertEqual(last(begins((0, 7)), check(0)), [-1])


class CheckChangesNothing(unittest.TestCase):
    def test_all_is_as_it_was_after_check(self):
        checks = ((check(2, 0, 2), [402]), (check(2, 2, 2), [-6, 0, 0, 1]), (check(0, 0, 0), [-6, 1, 0]),
                  (check(), [-1]), (check(2, 2, 2, 2), [-1]), (check(0, 0, 3), [-1]), (check(0, HUGE, 0), [-1]))
        for one, answer in checks:
            with self.subTest(check=one):
                found = ask(begins((6, 0), (0, 1)), *THREE, near(0), best(), one, near(0), near(2), best(), one,
                            tree(9, 9, 1, 1, 1))
                self.assertEqual(found[6], answer)
                self.assertEqual(found[4:6], [[1, 0, 1], [501, 1, 0, 2, 2]])
                self.assertEqual(found[7:], [[1, 0, 1], [-2], [501, 1, 0, 2, 2], answer, [3]])


if __name__ == "__main__":
    unittest.main()
