"""Points 2 and 3: least, plan, who, told, fewest; and what is said of lines."""

import unittest

from lines import GREATEST, answered, asked, begun
from rowshares.rows import answers

# Each of the 21 calls at least once, on rows of 5, 9 and 4 minutes and three pickers.
EVERY_SORT = [
    0, 3, 1, 5, 1, 6, 3, 1, 9, 1, 4, 6, 7, 8, 1, 9, 3, 1, 0, 2, 10, 9, 11, 2, 12, 7, 13, 7, 14, 1, 15, 1, 16, 0, 17,
    18, 1, 19, 20, 4, 2, 2, 0, 5, 20,
]


class Ordinary(unittest.TestCase):
    def test_as_the_interface_writes_it(self):
        line = [0, 2, 1, 5, 1, 7, 1, 3, 6, 7, 8, 1, 9, 2, 1, 2, 9, 2, 2, 1, 9, 1, 3, 10, 7, 10, 6,
                3, 1, 4, 6, 4, 3, 7, 5, 2, 0, 6, 5, 5, 5]
        self.assertEqual(answers(line), [
            1, 0, 1, 0, 1, 1, 1, 2, 1, 10, 3, 2, 1, 2, 1, 1, 2, 10, 0, 2, 12, 2, 1, -22, 1, 3, 1, -33,
            1, 7, 1, 7, 1, 2, 4, 3, 1, 1, 1, 1, 4, 1, 2, 1, 4, 1, 4, 1, 3, 1, 2])

    def test_nine_rows_three_pickers(self):
        rows = [10, 20, 30, 40, 50, 60, 70, 80, 90]
        self.assertEqual(
            asked(3, rows, ("least",), ("plan",), ("who", 4), ("who", 5), ("who", 6), ("who", 7), ("who", 8)),
            [[170], [3, 5, 2, 2], [0], [1], [1], [2], [2]])

    def test_the_plan_gives_to_the_first_as_much_as_goes(self):
        self.assertEqual(asked(3, [1, 1, 1, 9, 1], ("least",), ("plan",)), [[9], [3, 3, 1, 1]])
        self.assertEqual(asked(2, [4, 4, 2, 6], ("least",), ("plan",)), [[8], [2, 2, 2]])


class Corners(unittest.TestCase):
    def test_no_rows(self):
        for pickers in range(1, 7):
            nothing = [0] * pickers
            self.assertEqual(
                asked(pickers, [], ("least",), ("plan",), ("who", 0), ("told", *nothing), ("fewest", 0),
                      ("fewest", GREATEST)),
                [[0], [pickers] + nothing, [-2], [0, 0], [0], [0]])

    def test_one_row(self):
        for pickers in range(1, 7):
            for minutes in (1, 100):
                given = asked(pickers, [minutes], ("least",), ("plan",), ("who", 0), ("who", 1), ("fewest", minutes))
                self.assertEqual(given, [[minutes], [pickers, 1] + [0] * (pickers - 1), [0], [-2], [1]])

    def test_more_pickers_than_rows(self):
        self.assertEqual(
            asked(6, [9, 2, 9], ("least",), ("plan",), ("who", 2), ("told", 0, 1, 0, 1, 0, 1), ("fewest", 9)),
            [[9], [6, 1, 1, 1, 0, 0, 0], [2], [9, 0], [3]])

    def test_one_picker(self):
        self.assertEqual(
            asked(1, [9, 2, 9], ("least",), ("plan",), ("who", 0), ("who", 2), ("told", 3), ("told", 2)),
            [[20], [1, 3], [0], [0], [20, 0], [-22]])

    def test_a_row_far_longer_than_all_others(self):
        rows = [1, 1, 100, 1, 1]
        self.assertEqual(
            asked(3, rows, ("least",), ("plan",), ("who", 1), ("who", 2), ("who", 3), ("told", 3, 2, 0)),
            [[100], [3, 2, 1, 2], [0], [1], [2], [102, 2]])
        self.assertEqual(asked(2, rows, ("least",), ("plan",)), [[102], [2, 3, 2]])

    def test_nobody_in_the_middle(self):
        self.assertEqual(
            asked(3, [4, 6, 5], ("told", 1, 0, 2), ("told", 2, 0, 1), ("told", 0, 0, 3), ("told", 1, 1, 1)),
            [[11, 5], [10, 4], [15, 9], [6, 0]])

    def test_a_plan_that_leaves_pickers_without_rows(self):
        rows = [10, 1, 1, 1, 1]
        self.assertEqual(asked(4, rows, ("least",), ("plan",), ("who", 4)), [[10], [4, 1, 4, 0, 0], [1]])

    def test_rows_all_alike(self):
        self.assertEqual(asked(6, [7] * 14, ("least",), ("plan",)), [[21], [6, 3, 3, 3, 3, 2, 0]])
        self.assertEqual(asked(6, [100] * 12, ("least",), ("plan",)), [[200], [6, 2, 2, 2, 2, 2, 2]])
        self.assertEqual(asked(5, [1] * 14, ("least",), ("plan",)), [[3], [5, 3, 3, 3, 3, 2]])


class Least(unittest.TestCase):
    def test_greatest_and_smallest(self):
        self.assertEqual(asked(1, [100] * 14, ("least",)), [[1400]])
        self.assertEqual(asked(1, [1], ("least",)), [[1]])

    def test_more_than_both_bounds(self):
        self.assertEqual(asked(2, [3, 5, 3], ("least",)), [[8]])
        self.assertEqual(asked(2, [99, 100, 99], ("least",)), [[199]])


class Who(unittest.TestCase):
    def test_no_such_row(self):
        for i in (3, 4, 14, GREATEST):
            self.assertEqual(asked(6, [1, 2, 3], ("who", i)), [[-2]])

    def test_as_the_plan_tells(self):
        for pickers in range(1, 7):
            rows = [13, 2, 8, 8, 1, 1, 30, 4, 4, 4, 9, 2, 17, 5]
            given = asked(pickers, rows, ("plan",), *[("who", i) for i in range(14)])
            by_plan = [[p] for p, count in enumerate(given[0][1:]) for row in range(count)]
            self.assertEqual(given[1:], by_plan)


class Told(unittest.TestCase):
    def test_too_few_and_too_many(self):
        for shares in ([], [3], [1, 2], [1, 1, 1, 0], [0, 1, 1, 1], [1, 1, 1] + [0] * 13, [0] * 16, [1] * 16):
            self.assertEqual(asked(3, [4, 6, 5], ("told", *shares), ("least",)), [[-22], [6]])

    def test_sixteen_for_six(self):
        self.assertEqual(asked(6, [4], ("told", 1, *[0] * 15), ("told", 1, *[0] * 5)), [[-22], [4, 0]])

    def test_none_without_rows(self):
        self.assertEqual(asked(1, [], ("told",), ("told", 0), ("told", 0, 0)), [[-22], [0, 0], [-22]])

    def test_not_as_many_as_rows(self):
        for shares in ([0, 0, 0], [1, 1, 0], [1, 1, 2], [4, 0, 0], [3, 3, 3]):
            self.assertEqual(asked(3, [4, 6, 5], ("told", *shares)), [[-22]])
        self.assertEqual(asked(3, [], ("told", 1, 0, 0)), [[-22]])

    def test_far_too_many(self):
        for shares in ([GREATEST, 0, 0], [1, GREATEST, 2], [GREATEST, 4, 0], [GREATEST, GREATEST, 5],
                       [GREATEST, GREATEST, GREATEST]):
            self.assertEqual(asked(3, [4, 6, 5], ("told", *shares)), [[-22]])
        self.assertEqual(asked(2, [], ("told", GREATEST, 1)), [[-22]])

    def test_how_many_pickers_there_are_now(self):
        self.assertEqual(
            asked(2, [4, 6], ("told", 1, 1), ("pickers", 3), ("told", 1, 1), ("told", 1, 0, 1)),
            [[6, 0], [2], [-22], [6, 0]])

    def test_it_is_not_kept(self):
        self.assertEqual(
            asked(2, [4, 6], ("told", 0, 2), ("plan",), ("who", 0), ("least",)),
            [[10, 4], [2, 1, 1], [0], [6]])


class Fewest(unittest.TestCase):
    def test_some_row_takes_more(self):
        rows = [4, 6, 5]
        for m in range(6):
            self.assertEqual(asked(3, rows, ("fewest", m)), [[-33]])
        self.assertEqual(
            asked(3, rows, *[("fewest", m) for m in (6, 9, 10, 11, 14, 15, 16, GREATEST)]),
            [[3], [3], [2], [2], [2], [1], [1], [1]])

    def test_the_first_or_the_last_takes_more(self):
        self.assertEqual(asked(1, [7, 1, 1], ("fewest", 6)), [[-33]])
        self.assertEqual(asked(1, [1, 1, 7], ("fewest", 6)), [[-33]])

    def test_more_than_six(self):
        self.assertEqual(asked(1, [100] * 14, ("fewest", 100), ("fewest", 199), ("fewest", 200)), [[14], [14], [7]])
        self.assertEqual(asked(6, [2] * 13, ("fewest", 3), ("fewest", 2), ("fewest", 1)), [[13], [13], [-33]])

    def test_whatever_pickers_there_are(self):
        for pickers in range(1, 7):
            self.assertEqual(asked(pickers, [3, 3, 3, 3], ("fewest", 6), ("fewest", 3)), [[2], [4]])


class Lines(unittest.TestCase):
    def test_what_is_handed_in_stays_and_is_answered_alike(self):
        line = EVERY_SORT + [0, 9, 1, 0, 11, 9, 14, 9]
        before = list(line)
        once = answers(line)
        self.assertEqual(line, before)
        once_kept = list(once)
        twice = answers(line)
        self.assertEqual(twice, once_kept)
        self.assertIsNot(once, twice)
        self.assertEqual(answers([6]), [1, -61])

    def test_it_is_not_changed_for_a_while_either(self):
        class Untouched(list):
            def refuse(self, *ignored, **also_ignored):
                raise AssertionError("what is handed in is changed")

            append = extend = insert = pop = remove = clear = reverse = sort = refuse
            __setitem__ = __delitem__ = __iadd__ = __imul__ = refuse

        self.assertEqual(answers(Untouched(EVERY_SORT)), answers(EVERY_SORT))

    def test_every_sort(self):
        self.assertEqual(answers(EVERY_SORT), [
            1, 0, 1, 0, 1, 1, 1, 6, 1, 2,
            1, 9, 4, 3, 1, 1, 1, 1, 1, 2, 13, 4, 1, 3,
            1, 13, 1, 11, 1, 12, 1, 5, 1, 9, 1, 4, 1, 9,
            2, 9, 9, 2, 18, 9, 3, 3, 3, 4, 1, 3, 1, 2, 1, 5, 3, 2, 3, 5])

    def test_whole_numbers_alone(self):
        given = answers(EVERY_SORT)
        self.assertIs(type(given), list)
        self.assertEqual({type(number) for number in given}, {int})

    def test_a_hundred_calls(self):
        ahead = begun(6, [50] * 14)
        given = answered(*ahead, *[("plan",)] * 85)
        self.assertEqual(given[15:], [[6, 3, 3, 3, 3, 2, 0]] * 85)

    def test_the_longest_line(self):
        given = answered(("begin", 6), *[("told", *[GREATEST] * 16)] * 99)
        self.assertEqual(given, [[0]] + [[-22]] * 99)
        line = [9, 16, *[GREATEST] * 16] * 100
        self.assertEqual(len(line), 1800)
        self.assertEqual(answers(line), [1, -61] * 100)

    def test_one_call(self):
        self.assertEqual(answers([0, 6]), [1, 0])
        self.assertEqual(answers([0, 7]), [1, -22])
        self.assertEqual(answers([5]), [1, -61])


if __name__ == "__main__":
    unittest.main()
