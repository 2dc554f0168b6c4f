import contextlib
import io
import unittest

from lines import ask, begins, best, check, keep, line, near, tree, when

from treethinning.wood import answers


class Unchangeable(list):
    """A list that tells as soon as somebody changes it, even if it were put right again."""

    def refuse(self, *args, **kwargs):
        raise AssertionError("what was handed in is changed")

    append = extend = insert = pop = remove = clear = sort = reverse = refuse
    __setitem__ = __delitem__ = __iadd__ = __imul__ = refuse


EVERYTHING = line(
    near(0), best(), begins(), begins((10, 0), (20, 1)), tree(0, 0, 1, 2, 3), tree(0, 15, 4, 5, 6),
    tree(1001, 0, 1, 1, 1), tree(9, 9, 1, 1), near(0), near(1), near(2), best(),
    check(1, 2), check(2, 2), check(0, 1), check(2), keep(0), keep(1), keep(2), when(1), when(2),
    begins((5, 7)), best(), tree(1, 1, 1, 1), keep(0), when(0), check(1),
)
EVERYTHING_ANSWERED = [
    1, 0, 2, 0, 1, 1, -1, 1, 2, 1, 0, 1, 1, 1, -1,
    1, -1, 1, 0, 3, 1, 0, 1, 1, -2, 4, 8, 2, 1, 2,
    1, 8, 4, -6, 1, 0, 1, 3, -6, 1, 0, 1, -1, 4, 0, 1, 2, 1, 4, 0, 1, 1, 2, 1, -2, 4, 2, 0, 1, 1, 1, -2,
    1, 1, 1, -6, 1, 0, 1, -6, 1, -6, 3, -6, 0, 1,
]


class Answers(unittest.TestCase):
    def test_the_calls_that_the_document_writes_out(self):
        calls = [0, 4, 300, 4, 500, 2, 0, 1, 5, 10, 20, 5, 6, 7, 0, 3, 0, 0]
        self.assertEqual(answers(calls), [1, 2, 1, 0, 1, -6])

    def test_how_many_are_answered_stands_ahead_of_each_answer(self):
        self.assertEqual(answers(EVERYTHING), EVERYTHING_ANSWERED)

    def test_one_call(self):
        self.assertEqual(answers([3, 0, 0]), [2, 0, 1])
        self.assertEqual(answers([0, 0, 0]), [1, -1])
        self.assertEqual(answers([2, 1, 0, 0]), [1, 0])
        self.assertEqual(answers([1, 2, 0, 0, 0]), [1, -1])
        self.assertEqual(answers([4, 0, 0]), [1, 0])
        self.assertEqual(answers([4, 1, 0, 0]), [1, -1])
        self.assertEqual(answers([5, 1, 0, 0]), [1, -2])
        self.assertEqual(answers([6, 1, 0, 0]), [1, -2])

    def test_sixty_calls(self):
        self.assertEqual(answers(near(0) * 60), [1, 0] * 60)
        many = line(begins((2000, 0), (2000, 0), (2000, 0)), *[tree(1, 1, 5, 5, 5, 5)] * 7, *[near(2)] * 44,
                    *[best()] * 8)
        given = answers(many)
        self.assertEqual(given[:16], [1, 3, 1, 0, 1, 1, 1, 2, 1, 3, 1, 4, 1, 5, 1, 6])
        self.assertEqual(len(given), 16 + 44 * 44 + 8 * 10)

    def test_seven_trees_three_thinnings_and_eight_searches(self):
        # A row 10 apart: for thinning 0 all have room, for thinning 1 each second one, for thinning 2 each third one.
        row = [tree(10 * i, 0, 1, 2, 4, 8) for i in range(7)]
        found = ask(
            begins((10, 4), (20, 3), (30, 2)), *row,
            best(), keep(0), keep(1), keep(2), keep(3), when(0), when(1), when(2),
        )
        # Most stay to the end: 0, 3 and 6. Beside these none is far enough for thinning 1.
        self.assertEqual(found[8], [3 * 8 + 4 * 2, 1, 3, 1, 1, 3, 1, 1, 3])
        self.assertEqual(found[9], [0, 1, 3, 1, 1, 3, 1, 1, 3])
        # With 1 to the end: 4 and until thinning 2 also 6, or 5 and 3, or 6 and 3, or 6 and 4.
        self.assertEqual(found[10], [32 - (2 * 8 + 4 + 4 * 2), 4, 1, 3, 1, 1, 2, 1, 3])
        # With 2 to the end: 6, and until thinning 2 also 0 and 4.
        self.assertEqual(found[11], [32 - (2 * 8 + 2 * 4 + 3 * 2), 1, 2, 1, 3, 1, 2, 1, 3])
        self.assertEqual(found[12:], [[0, 1, 3, 1, 1, 3, 1, 1, 3], [1, 0, 0, 0, 1], [1, 0, 1, 0, 0], [1, 0, 1, 0, 0]])

    def test_eight_searches_through_all_plans(self):
        seven = [tree(0, 0, 5, 5, 5, 5)] * 7
        found = ask(
            begins((0, 0), (0, 0), (0, 0)), *seven,
            best(), keep(0), keep(6), when(0), when(6), best(), keep(3), when(3),
        )
        all_of_them = [35, 4 ** 7, 0, 0, 0, 0, 0, 0, 0]
        evenly = [4 ** 7] + [4 ** 6] * 4
        self.assertEqual(found[8:], [
            all_of_them, [0, 4 ** 6, 3, 0, 0, 0, 0, 0, 0], [0, 4 ** 6, 0, 0, 0, 0, 0, 0, 3], evenly, evenly,
            all_of_them, [0, 4 ** 6, 0, 0, 0, 3, 0, 0, 0], evenly,
        ])

    def test_what_is_handed_in_is_not_changed(self):
        calls = list(EVERYTHING)
        answers(calls)
        self.assertEqual(calls, EVERYTHING)
        self.assertEqual(answers(Unchangeable(EVERYTHING)), EVERYTHING_ANSWERED)

    def test_nothing_is_kept_from_one_time_to_the_next(self):
        first = answers(list(EVERYTHING))
        first.append("more")
        self.assertEqual(answers(list(EVERYTHING)), EVERYTHING_ANSWERED)
        answers(line(begins((2000, 7), (2000, 7)), *[tree(1, 1, 5, 5, 5)] * 7))
        self.assertEqual(answers(line(near(1), tree(1, 1, 7, 5), near(0), best())), [1, -2, 1, 0, 1, 0, 3, 7, 1, 0])
        self.assertEqual(answers(line(keep(0), when(0), check())), [1, -2, 1, -2, 1, 0])

    def test_what_is_given_back_is_a_list_of_whole_numbers(self):
        given = answers(list(EVERYTHING))
        self.assertIs(type(given), list)
        self.assertEqual({type(number) for number in given}, {int})

    def test_nothing_is_printed(self):
        shown = io.StringIO()
        with contextlib.redirect_stdout(shown), contextlib.redirect_stderr(shown):
            answers(list(EVERYTHING))
        self.assertEqual(shown.getvalue(), "")


if __name__ == "__main__":
    unittest.main()
