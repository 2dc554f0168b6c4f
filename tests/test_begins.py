import unittest

from lines import ask, begins, best, last, near, tree

HUGE = 4294967295


class Begins(unittest.TestCase):
    def test_answers_how_many_thinnings(self):
        self.assertEqual(last(begins((300, 4))), [1])
        self.assertEqual(last(begins((300, 4), (500, 2))), [2])
        self.assertEqual(last(begins((300, 4), (500, 2), (700, 1))), [3])

    def test_edges_of_gap_and_of_how_many_have_to_stay(self):
        self.assertEqual(last(begins((0, 0))), [1])
        self.assertEqual(last(begins((2000, 7))), [1])
        self.assertEqual(last(begins((0, 7), (2000, 0), (2000, 7))), [3])

    def test_gaps_may_fall(self):
        found = ask(begins((100, 0), (50, 0)), tree(0, 0, 1, 1, 1), tree(0, 70, 1, 1, 1), near(0), near(1))
        self.assertEqual(found, [[2], [0], [1], [1, 0, 1], [0]])

    def test_none_four_and_five_thinnings_are_refused(self):
        for many in (0, 4, 5):
            with self.subTest(many=many):
                self.assertEqual(last(begins(*[(10, 0)] * many)), [-1])

    def test_a_number_too_great_is_refused_wherever_it_stands(self):
        for wrong in ((2001, 0), (HUGE, 0), (0, 8), (0, HUGE), (2001, 8)):
            for many in (1, 2, 3):
                for where in range(many):
                    thinnings = [(10, 1)] * many
                    thinnings[where] = wrong
                    with self.subTest(thinnings=thinnings):
                        self.assertEqual(last(begins(*thinnings)), [-1])

    def test_no_trees_are_left(self):
        found = ask(
            begins((10, 0)), tree(0, 0, 1, 2), tree(0, 0, 1, 2), near(0),
            begins((10, 0)), near(0), best(), tree(5, 5, 3, 4), best(),
        )
        self.assertEqual(found[4:], [[1], [0], [0, 1], [0], [4, 1, 1]])

    def test_room_for_seven_trees_again(self):
        seven = [tree(0, 0, 1, 1)] * 7
        found = ask(begins((0, 0)), *seven, begins((0, 0)), *seven)
        self.assertEqual(found[8:], [[1], [0], [1], [2], [3], [4], [5], [6]])

    def test_the_newest_thinnings_hold(self):
        found = ask(begins((10, 0), (20, 0)), begins((30, 1)), near(1), tree(0, 0, 1, 1, 1), best())
        self.assertEqual(found[2:], [[-2], [-1], [-6]])

    def test_all_is_as_it_was_after_a_refusal(self):
        wrong = (begins(), begins((2001, 0)), begins((0, 8)), begins((9, 0), (0, 8)), begins(*[(9, 0)] * 4))
        for refused in wrong:
            with self.subTest(refused=refused):
                found = ask(
                    begins((10, 0), (20, 1)), tree(0, 0, 1, 2, 3), tree(0, 15, 4, 5, 6),
                    refused, near(0), near(1), near(2), best(), tree(9, 9, 1, 1, 1),
                )
                self.assertEqual(found[3:], [[-1], [0], [1, 0, 1], [-2], [8, 2, 1, 2], [2]])


class BeforeAnyBegins(unittest.TestCase):
    def test_there_is_one_thinning(self):
        self.assertEqual(ask(near(0), near(1)), [[0], [-2]])

    def test_there_are_no_trees_and_none_has_to_stay(self):
        self.assertEqual(ask(best()), [[0, 1]])

    def test_a_tree_has_two_worths(self):
        found = ask(tree(0, 0, 1), tree(0, 0, 1, 2, 3), tree(0, 0, 7, 2), tree(1, 1, 3, 4))
        self.assertEqual(found, [[-1], [-1], [0], [1]])

    def test_the_gap_is_nothing(self):
        found = ask(tree(4, 4, 1, 9), tree(4, 4, 1, 9), near(0), best())
        self.assertEqual(found[2:], [[0], [18, 1, 1, 1]])

    def test_a_refused_begins_leaves_it_so(self):
        found = ask(begins(), begins((5, 1), (5, 9)), near(1), tree(0, 0, 7, 2), tree(0, 0, 7, 2), near(0), best())
        self.assertEqual(found, [[-1], [-1], [-2], [0], [1], [0], [14, 1, 0, 0]])


if __name__ == "__main__":
    unittest.main()
