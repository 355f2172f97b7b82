"""Point 3: if_pickers, more, first, without, exchange, longer."""

import unittest

from lines import GREATEST, asked, least_of_all
from rowshares.rows import answers

NO_MINUTES = (0, 101, 102, 256, 257, GREATEST)
NO_PICKERS = (0, 7, 8, 256, 257, GREATEST)


class Ordinary(unittest.TestCase):
    def test_as_the_interface_writes_it(self):
        line = [0, 2, 1, 5, 1, 7, 1, 3, 11, 1, 11, 2, 11, 6, 11, 0, 12, 4, 13, 4, 14, 0, 14, 2, 14, 3,
                15, 0, 15, 1, 15, 2, 16, 0, 16, 1, 16, 3]
        self.assertEqual(answers(line), [
            1, 0, 1, 0, 1, 1, 1, 2, 1, 15, 1, 10, 1, 7, 1, -22, 1, 12, 1, 10, 1, 7, 1, 7, 1, -2,
            1, 8, 1, 8, 1, -2, 1, 5, 1, 0, 1, -2])


class IfPickers(unittest.TestCase):
    def test_each_number_of_pickers(self):
        rows = [10, 20, 30, 40, 50, 60, 70, 80, 90]
        for pickers in range(1, 7):
            self.assertEqual(
                asked(pickers, rows, *[("if_pickers", k) for k in range(1, 7)]),
                [[450], [240], [170], [150], [110], [90]])

    def test_no_rows(self):
        self.assertEqual(asked(3, [], ("if_pickers", 1), ("if_pickers", 3), ("if_pickers", 6)), [[0], [0], [0]])

    def test_one_row_and_rows_all_alike(self):
        self.assertEqual(asked(3, [100], ("if_pickers", 1), ("if_pickers", 6)), [[100], [100]])
        self.assertEqual(asked(1, [7] * 14, ("if_pickers", 6), ("if_pickers", 5)), [[21], [21]])
        self.assertEqual(asked(1, [7] * 14, ("if_pickers", 4), ("if_pickers", 1)), [[28], [98]])

    def test_out_of_bounds(self):
        for pickers in NO_PICKERS:
            self.assertEqual(
                asked(3, [5, 6], ("if_pickers", pickers), ("least",), ("plan",), ("state",), ("back",)),
                [[-22], [6], [3, 1, 1, 0], [3, 2, 2], [1]])
            self.assertEqual(asked(3, [], ("if_pickers", pickers)), [[-22]])


class MoreAndFirst(unittest.TestCase):
    def test_behind_all_or_ahead_of_all(self):
        self.assertEqual(asked(2, [5, 7, 3], ("more", 4), ("first", 4)), [[12], [10]])
        self.assertEqual(asked(2, [9, 1, 1], ("more", 9), ("first", 9)), [[10], [11]])
        self.assertEqual(asked(2, [9, 1, 1], ("more", 3), ("first", 3)), [[9], [11]])

    def test_none_there(self):
        for pickers in range(1, 7):
            for minutes in (1, 2, 99, 100):
                self.assertEqual(
                    asked(pickers, [], ("more", minutes), ("first", minutes), ("least",), ("state",)),
                    [[minutes], [minutes], [0], [pickers, 0, 0]])

    def test_fourteen_there(self):
        self.assertEqual(
            asked(1, [100] * 14, ("more", 100), ("first", 100), ("row", 100), ("least",), ("state",)),
            [[1500], [1500], [-28], [1400], [1, 14, 10]])
        self.assertEqual(asked(2, [1] * 13 + [9], ("more", 20), ("first", 20), ("least",)), [[22], [21], [11]])
        self.assertEqual(asked(2, [9] + [1] * 13, ("more", 20), ("first", 20), ("least",)), [[21], [22], [11]])
        self.assertEqual(asked(2, [1] * 14, ("more", 1), ("first", 1), ("more", 100)), [[8], [8], [100]])

    def test_thirteen_there(self):
        self.assertEqual(asked(1, [2] * 13, ("more", 3), ("first", 3), ("state",)), [[29], [29], [1, 13, 10]])

    def test_out_of_bounds(self):
        for rows, least in (([], 0), ([5, 6], 6), ([2] * 14, 10)):
            for minutes in NO_MINUTES:
                self.assertEqual(
                    asked(3, rows, ("more", minutes), ("first", minutes), ("least",), ("state",)),
                    [[-22], [-22], [least], [3, len(rows), min(len(rows), 10)]])


class Without(unittest.TestCase):
    def test_first_last_and_between(self):
        self.assertEqual(asked(2, [5, 7, 3], *[("without", i) for i in range(4)]), [[7], [5], [7], [-2]])
        self.assertEqual(asked(1, [3, 50, 7], *[("without", i) for i in range(4)]), [[57], [10], [53], [-2]])

    def test_the_only_one(self):
        for pickers in range(1, 7):
            self.assertEqual(asked(pickers, [9], ("without", 0), ("least",)), [[0], [9]])

    def test_of_fourteen(self):
        rows = [1, 2, 3, 4, 5, 6, 7, 8, 9, 10, 11, 12, 13, 14]
        self.assertEqual(
            asked(1, rows, ("without", 0), ("without", 12), ("without", 13), ("without", 14)),
            [[104], [92], [91], [-2]])

    def test_no_such_row(self):
        for i in (2, 3, 14, GREATEST):
            self.assertEqual(
                asked(2, [3, 4], ("without", i), ("plan",), ("state",), ("back",)),
                [[-2], [2, 1, 1], [2, 2, 2], [1]])
        self.assertEqual(asked(2, [], ("without", 0), ("without", GREATEST)), [[-2], [-2]])


class Exchange(unittest.TestCase):
    def test_each_with_the_one_behind_it(self):
        self.assertEqual(asked(2, [5, 7, 3], ("exchange", 0), ("exchange", 1), ("exchange", 2)), [[8], [8], [-2]])
        self.assertEqual(asked(2, [2, 9, 2], ("least",), ("exchange", 0), ("exchange", 1)), [[11], [9], [9]])
        self.assertEqual(
            asked(2, [3, 4, 2, 8, 1], *[("exchange", i) for i in range(5)]), [[9], [9], [11], [9], [-2]])

    def test_the_last_but_one_and_the_last(self):
        rows = [1] * 12 + [50, 40]
        self.assertEqual(
            asked(2, rows, ("least",), ("exchange", 12), ("exchange", 13), ("exchange", 14)), [[62], [52], [-2], [-2]])

    def test_two(self):
        self.assertEqual(asked(1, [3, 8], ("exchange", 0), ("exchange", 1)), [[11], [-2]])
        self.assertEqual(asked(2, [3, 8], ("exchange", 0), ("exchange", 1)), [[8], [-2]])

    def test_one_alone_and_none(self):
        for rows in ([], [5]):
            for i in (0, 1, GREATEST):
                self.assertEqual(
                    asked(2, rows, ("exchange", i), ("least",), ("state",)),
                    [[-2], [sum(rows)], [2, len(rows), len(rows)]])

    def test_two_that_are_alike(self):
        self.assertEqual(asked(2, [6, 6, 1], ("least",), ("exchange", 0)), [[7], [7]])
        self.assertEqual(asked(6, [7] * 14, *[("exchange", i) for i in range(14)]), [[21]] * 13 + [[-2]])

    def test_no_such_row(self):
        for i in (3, 4, 13, 14, GREATEST - 1, GREATEST):
            self.assertEqual(
                asked(2, [2, 9, 2], ("exchange", i), ("plan",), ("state",), ("back",)),
                [[-2], [2, 2, 1], [2, 3, 3], [2]])


class Longer(unittest.TestCase):
    def hold_just_so_much(self, rows, pickers):
        """Gives back what longer answers of each row, held against all shares."""
        least = least_of_all(rows, pickers)
        given = [x for x, in asked(pickers, rows, *[("longer", i) for i in range(len(rows))])]
        for i, x in enumerate(given):
            still = rows[:i] + [rows[i] + x] + rows[i + 1:]
            above = rows[:i] + [rows[i] + x + 1] + rows[i + 1:]
            self.assertEqual(least_of_all(still, pickers), least, (rows, pickers, i))
            self.assertGreater(least_of_all(above, pickers), least, (rows, pickers, i))
        return given

    def test_one_picker(self):
        for rows in ([1], [100], [5, 7, 3], [1, 1, 100, 1, 1], [100] * 14):
            self.assertEqual(self.hold_just_so_much(rows, 1), [0] * len(rows))

    def test_one_row(self):
        for pickers in range(1, 7):
            for minutes in (1, 50, 100):
                self.assertEqual(self.hold_just_so_much([minutes], pickers), [0])

    def test_more_pickers_than_rows(self):
        self.assertEqual(self.hold_just_so_much([9, 2, 5], 6), [0, 7, 4])
        self.assertEqual(self.hold_just_so_much([1, 100], 3), [99, 0])

    def test_as_many_pickers_as_rows(self):
        self.assertEqual(self.hold_just_so_much([9, 2, 5], 3), [0, 7, 4])

    def test_a_row_that_cannot_take_a_minute_longer(self):
        self.assertEqual(self.hold_just_so_much([5, 7, 3], 2), [5, 0, 0])
        self.assertEqual(self.hold_just_so_much([4, 4, 4, 4], 2), [0, 0, 0, 0])

    def test_a_row_far_longer_than_all_others(self):
        self.assertEqual(self.hold_just_so_much([1, 1, 100, 1, 1], 3), [98, 98, 0, 98, 98])
        self.assertEqual(self.hold_just_so_much([1, 1, 100, 1, 1], 4), [99, 99, 0, 99, 99])
        self.assertEqual(self.hold_just_so_much([1, 1, 100, 1, 1], 2), [100, 100, 0, 100, 100])
        self.assertEqual(self.hold_just_so_much([100, 1, 1], 2), [0, 98, 98])
        self.assertEqual(self.hold_just_so_much([1, 1, 100], 2), [98, 98, 0])

    def test_above_a_hundred_minutes(self):
        self.assertEqual(self.hold_just_so_much([100, 100, 10], 2), [10, 0, 0])
        self.assertEqual(self.hold_just_so_much([100, 100, 100], 2), [100, 0, 100])
        self.assertEqual(self.hold_just_so_much([100] * 14, 6), [200] * 14)
        self.assertEqual(self.hold_just_so_much([100] * 13 + [1], 3), [
            100, 100, 100, 100, 0, 100, 100, 100, 100, 99, 199, 199, 199, 199])

    def test_the_rows_behind_are_given_out_otherwise(self):
        # By the plan 3, 2, 1 | 7 there is but one minute left; with 3 | 2, 1 | 7 and 3, 2 | 1 | 7 there are more.
        self.assertEqual(self.hold_just_so_much([3, 2, 1, 7], 3), [4, 4, 6, 0])

    def test_fourteen_rows(self):
        rows = [31, 4, 15, 92, 65, 35, 89, 79, 32, 38, 46, 26, 43, 38]
        for pickers in range(2, 7):
            self.hold_just_so_much(rows, pickers)

    def test_no_such_row(self):
        for i in (3, 4, 14, GREATEST):
            self.assertEqual(
                asked(2, [5, 7, 3], ("longer", i), ("least",), ("state",), ("back",)),
                [[-2], [10], [2, 3, 3], [2]])
        self.assertEqual(asked(2, [], ("longer", 0), ("longer", GREATEST)), [[-2], [-2]])
        self.assertEqual(asked(2, [1] * 14, ("longer", 13), ("longer", 14)), [[0], [-2]])

    def test_as_the_changes_tell(self):
        rows = [13, 2, 8, 8, 1, 1, 30, 4, 4, 4, 9, 2, 17, 5]
        for pickers in range(1, 7):
            given = asked(pickers, rows, ("least",), *[("longer", i) for i in range(14)])
            least = given[0]
            for i, (x,) in enumerate(given[1:]):
                still, above = asked(
                    pickers, rows, ("minutes", i, rows[i] + x), ("least",), ("minutes", i, rows[i] + x + 1),
                    ("least",))[1::2]
                self.assertEqual(still, least, (pickers, i))
                self.assertGreater(above, least, (pickers, i))


if __name__ == "__main__":
    unittest.main()
