import unittest

from lines import ask, begins, best, last, near, tree

HUGE = 4294967295


class Trees(unittest.TestCase):
    def test_answers_its_number(self):
        found = ask(begins((10, 0), (20, 0)), *[tree(i, i, 1, 2, 3) for i in range(7)])
        self.assertEqual(found, [[2], [0], [1], [2], [3], [4], [5], [6]])

    def test_a_worth_for_each_time(self):
        for thinnings in (1, 2, 3):
            for worths in range(7):
                with self.subTest(thinnings=thinnings, worths=worths):
                    expected = [0] if worths == thinnings + 1 else [-1]
                    self.assertEqual(last(begins(*[(10, 0)] * thinnings), tree(1, 2, *[5] * worths)), expected)

    def test_edges_of_places(self):
        found = ask(tree(0, 0, 1, 1), tree(0, 1000, 1, 1), tree(1000, 0, 1, 1), tree(1000, 1000, 1, 1))
        self.assertEqual(found, [[0], [1], [2], [3]])

    def test_edges_of_worths(self):
        found = ask(tree(1, 1, 0, 0), tree(1, 1, 1000000, 0), tree(1, 1, 0, 1000000), tree(1, 1, 1000000, 1000000))
        self.assertEqual(found, [[0], [1], [2], [3]])

    def test_several_trees_may_stand_at_one_place(self):
        self.assertEqual(ask(tree(3, 3, 1, 1), tree(3, 3, 1, 1)), [[0], [1]])

    def test_a_place_out_of_bounds_is_refused(self):
        for first, second in ((1001, 0), (0, 1001), (1001, 1001), (HUGE, 0), (0, HUGE)):
            with self.subTest(first=first, second=second):
                self.assertEqual(last(tree(first, second, 1, 1)), [-1])

    def test_a_worth_out_of_bounds_is_refused_wherever_it_stands(self):
        for wrong in (1000001, HUGE):
            for where in range(4):
                worths = [5] * 4
                worths[where] = wrong
                with self.subTest(worths=worths):
                    self.assertEqual(last(begins((0, 0), (0, 0), (0, 0)), tree(1, 1, *worths)), [-1])

    def test_an_eighth_is_refused(self):
        found = ask(*[tree(1, 1, 5, 0)] * 9, best())
        self.assertEqual(found[6:], [[6], [-5], [-5], [35, 1, 0, 0, 0, 0, 0, 0, 0]])

    def test_what_is_not_as_told_goes_ahead_of_too_many(self):
        seven = [tree(1, 1, 5, 0)] * 7
        wrong = (tree(1001, 1, 5, 0), tree(1, 1001, 5, 0), tree(1, 1, 1000001, 0), tree(1, 1, 5, 1000001),
                 tree(1, 1), tree(1, 1, 5), tree(1, 1, 5, 0, 0))
        for refused in wrong:
            with self.subTest(refused=refused):
                self.assertEqual(ask(*seven, refused, tree(1, 1, 5, 0))[7:], [[-1], [-5]])

    def test_all_is_as_it_was_after_a_refusal(self):
        wrong = (tree(1001, 0, 9, 9), tree(0, 1001, 9, 9), tree(0, 0, 9, 1000001), tree(0, 0, 9), tree(0, 0, 9, 9, 9))
        for refused in wrong:
            with self.subTest(refused=refused):
                found = ask(begins((10, 0)), tree(0, 0, 1, 2), refused, near(0), best(), tree(50, 0, 3, 4), best())
                self.assertEqual(found[2:], [[-1], [0], [2, 1, 1], [1], [6, 1, 1, 1]])

    def test_all_is_as_it_was_after_too_many(self):
        seven = [tree(100 * i, 0, i, 9) for i in range(7)]
        found = ask(begins((150, 0)), *seven, near(0), best(), tree(999, 999, 50, 50), near(0), best())
        self.assertEqual(found[10], [-5])
        self.assertEqual(found[8:10], found[11:])
        self.assertEqual(found[8], [6, 0, 1, 1, 2, 2, 3, 3, 4, 4, 5, 5, 6])


if __name__ == "__main__":
    unittest.main()
