import unittest

from lines import ask, begins, last, near, tree

HUGE = 4294967295


def pairs_for(gap, *places):
    return last(begins((gap, 0)), *[tree(first, second, 1, 1) for first, second in places], near(0))


class Near(unittest.TestCase):
    def test_no_trees_and_one_tree(self):
        self.assertEqual(pairs_for(2000), [0])
        self.assertEqual(pairs_for(2000, (5, 5)), [0])

    def test_pairs_come_by_the_lower_number_first(self):
        self.assertEqual(
            pairs_for(10, (0, 0), (500, 0), (1, 0), (501, 0), (0, 1)),
            [4, 0, 2, 0, 4, 1, 3, 2, 4],
        )

    def test_all_pairs_of_seven(self):
        expected = [21]
        for low in range(7):
            for high in range(low + 1, 7):
                expected += [low, high]
        self.assertEqual(pairs_for(2000, *[(i, 1000 - i) for i in range(7)]), expected)

    def test_just_as_far_apart_as_the_gap_is_not_too_near(self):
        self.assertEqual(pairs_for(5, (0, 0), (3, 4)), [0])
        self.assertEqual(pairs_for(6, (0, 0), (3, 4)), [1, 0, 1])
        self.assertEqual(pairs_for(1000, (0, 7), (1000, 7)), [0])
        self.assertEqual(pairs_for(1000, (7, 0), (7, 1000)), [0])
        self.assertEqual(pairs_for(500, (300, 0), (0, 400)), [0])

    def test_a_little_less_than_the_gap_is_too_near(self):
        self.assertEqual(pairs_for(1000, (0, 7), (999, 7)), [1, 0, 1])
        self.assertEqual(pairs_for(500, (300, 0), (0, 399)), [1, 0, 1])
        # 1 and 1 are 2 as a square: more than 1, less than 2 apart.
        self.assertEqual(pairs_for(1, (0, 0), (1, 1)), [0])
        self.assertEqual(pairs_for(2, (0, 0), (1, 1)), [1, 0, 1])

    def test_two_trees_at_one_place(self):
        self.assertEqual(pairs_for(0, (8, 9), (8, 9)), [0])
        self.assertEqual(pairs_for(1, (8, 9), (8, 9)), [1, 0, 1])

    def test_the_corners(self):
        corners = ((0, 0), (1000, 1000))
        self.assertEqual(pairs_for(1414, *corners), [0])
        self.assertEqual(pairs_for(1415, *corners), [1, 0, 1])
        self.assertEqual(pairs_for(2000, *corners), [1, 0, 1])
        self.assertEqual(pairs_for(1415, (0, 1000), (1000, 0)), [1, 0, 1])

    def test_each_thinning_has_its_own_gap(self):
        found = ask(
            begins((10, 0), (30, 7), (20, 0)), tree(0, 0, 1, 1, 1, 1), tree(0, 25, 1, 1, 1, 1), tree(0, 40, 1, 1, 1, 1),
            near(0), near(1), near(2),
        )
        self.assertEqual(found[4:], [[0], [2, 0, 1, 1, 2], [1, 1, 2]])

    def test_no_such_thinning(self):
        for many in (1, 2, 3):
            thinnings = [(10, 0)] * many
            with self.subTest(many=many):
                found = ask(begins(*thinnings), near(many - 1), near(many), near(many + 1), near(HUGE))
                self.assertEqual(found[1:], [[0], [-2], [-2], [-2]])

    def test_all_is_as_it_was_after_a_refusal(self):
        found = ask(begins((10, 0)), tree(0, 0, 1, 1), tree(0, 1, 1, 1), near(1), near(0), tree(0, 2, 1, 1))
        self.assertEqual(found[3:], [[-2], [1, 0, 1], [2]])


if __name__ == "__main__":
    unittest.main()
