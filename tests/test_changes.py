"""Point 1: begin, row, out, minutes, pickers, back; and what is said of calls ahead of it."""

import unittest

from lines import GREATEST, NUMBERS, answered, asked, begun, rows_told_by
from rowshares.rows import answers

HOW_MANY_NUMBERS = {"minutes": 2, "back": 0, "least": 0, "plan": 0, "idle": 0, "sums": 0, "state": 0}
BELOW_AND_ABOVE_MINUTES = (0, 101, 102, 256, 257, GREATEST)
BELOW_AND_ABOVE_PICKERS = (0, 7, 8, 256, 257, GREATEST)


class NotBegun(unittest.TestCase):
    def test_every_other_call_is_refused(self):
        calls = [(name, *[n] * HOW_MANY_NUMBERS.get(name, 1)) for name in NUMBERS for n in (0, 1, GREATEST)]
        calls += [("told",), ("told", 0, 0), ("told", *[0] * 16)]
        for call in calls:
            if call[0] != "begin":
                self.assertEqual(answered(call, call, ("begin", 1)), [[-61], [-61], [0]], call)

    def test_as_the_interface_writes_it(self):
        line = [6, 1, 200, 2, 0, 3, 0, 0, 4, 0, 5, 7, 8, 0, 9, 0, 9, 2, 0, 0, 10, 0, 0, 1, 6]
        self.assertEqual(answers(line), [1, -61] * 11 + [1, 0, 1, 0])
        line = [11, 1, 12, 1, 13, 1, 14, 0, 15, 0, 16, 0, 17, 18, 0, 19, 20, 0, 1, 17, 18, 0, 19, 20]
        self.assertEqual(answers(line), [1, -61] * 10 + [1, 0, 1, 0, 1, 0, 2, 0, 0, 3, 1, 0, 0])

    def test_a_refused_begin_does_not_begin(self):
        for pickers in BELOW_AND_ABOVE_PICKERS:
            self.assertEqual(
                answered(("begin", pickers), ("row", 5), ("least",), ("begin", 6), ("least",)),
                [[-22], [-61], [-61], [0], [0]])

    def test_what_was_refused_ahead_of_begin_left_nothing(self):
        self.assertEqual(
            answered(("row", 5), ("pickers", 2), ("begin", 1), ("plan",), ("back",)),
            [[-61], [-61], [0], [1, 0], [-2]])


class Begin(unittest.TestCase):
    def test_each_number_of_pickers(self):
        for pickers in range(1, 7):
            self.assertEqual(answered(("begin", pickers), ("plan",)), [[0], [pickers] + [0] * pickers])

    def test_pickers_out_of_bounds(self):
        for pickers in BELOW_AND_ABOVE_PICKERS:
            self.assertEqual(answered(("begin", pickers)), [[-22]])

    def test_once_more(self):
        ahead = begun(3, [5, 6, 7]) + [("pickers", 4)]
        self.assertEqual(
            answered(*ahead, ("begin", 2), ("plan",), ("least",), ("back",), ("who", 0), ("row", 9))[-6:],
            [[0], [2, 0, 0], [0], [-2], [-2], [0]])

    def test_once_more_with_as_many_pickers(self):
        self.assertEqual(asked(3, [5, 6], ("begin", 3), ("plan",), ("back",)), [[0], [3, 0, 0, 0], [-2]])

    def test_refused_later_it_changes_nothing(self):
        for pickers in BELOW_AND_ABOVE_PICKERS:
            self.assertEqual(
                asked(3, [5, 6], ("begin", pickers), ("plan",), ("least",), ("back",)),
                [[-22], [3, 1, 1, 0], [6], [1]])


class Row(unittest.TestCase):
    def test_its_number_and_its_place(self):
        self.assertEqual(answered(*begun(2, [5, 1, 100])), [[0], [0], [1], [2]])
        self.assertEqual(rows_told_by(*begun(2, [5, 1, 100])), ([5, 1, 100], 2))

    def test_minutes_out_of_bounds(self):
        for minutes in BELOW_AND_ABOVE_MINUTES:
            self.assertEqual(asked(1, [4], ("row", minutes), ("plan",), ("least",)), [[-22], [1, 1], [4]])

    def test_fourteen_and_no_more(self):
        numbers = [[i] for i in range(14)]
        self.assertEqual(answered(*begun(1, [100] * 14), ("row", 1), ("least",)), [[0]] + numbers + [[-28], [1400]])

    def test_out_of_bounds_goes_ahead_of_full(self):
        for minutes in BELOW_AND_ABOVE_MINUTES:
            self.assertEqual(asked(1, [2] * 14, ("row", minutes), ("row", 1)), [[-22], [-28]])

    def test_room_again_behind_out(self):
        self.assertEqual(asked(1, [2] * 14, ("row", 1), ("out", 0), ("row", 3), ("least",)), [[-28], [13], [13], [29]])


class Out(unittest.TestCase):
    def test_each_row(self):
        rows = [3, 50, 7, 100]
        for i in range(4):
            self.assertEqual(asked(2, rows, ("out", i)), [[3]])
            self.assertEqual(rows_told_by(*begun(2, rows), ("out", i)), (rows[:i] + rows[i + 1:], 2))

    def test_till_none_is_left(self):
        self.assertEqual(
            asked(2, [3, 4], ("out", 1), ("out", 1), ("out", 0), ("out", 0), ("least",)),
            [[1], [-2], [0], [-2], [0]])

    def test_no_such_row(self):
        for i in (2, 3, 13, 14, GREATEST):
            self.assertEqual(asked(2, [3, 4], ("out", i), ("plan",), ("back",)), [[-2], [2, 1, 1], [1]])
        self.assertEqual(asked(2, [], ("out", 0)), [[-2]])

    def test_last_of_fourteen(self):
        self.assertEqual(asked(1, [1] * 13 + [9], ("out", 14), ("out", 13), ("least",)), [[-2], [13], [13]])


class Minutes(unittest.TestCase):
    def test_what_it_took(self):
        rows = [3, 50, 7]
        for i in range(3):
            for minutes in (1, 2, 99, 100):
                self.assertEqual(asked(1, rows, ("minutes", i, minutes)), [[rows[i]]])
                after = rows[:i] + [minutes] + rows[i + 1:]
                self.assertEqual(rows_told_by(*begun(1, rows), ("minutes", i, minutes)), (after, 1))

    def test_as_many_as_before_is_a_change(self):
        self.assertEqual(asked(1, [3], ("minutes", 0, 3), ("back",), ("back",), ("back",)), [[3], [1], [0], [-2]])

    def test_out_of_bounds(self):
        for minutes in BELOW_AND_ABOVE_MINUTES:
            self.assertEqual(asked(1, [3, 4], ("minutes", 1, minutes), ("least",), ("back",)), [[-22], [7], [1]])

    def test_no_such_row_goes_first(self):
        for i in (2, 14, GREATEST):
            for minutes in (1, 100) + BELOW_AND_ABOVE_MINUTES:
                self.assertEqual(asked(1, [3, 4], ("minutes", i, minutes), ("least",), ("back",)), [[-2], [7], [1]])
        self.assertEqual(asked(1, [], ("minutes", 0, 0)), [[-2]])


class Pickers(unittest.TestCase):
    def test_how_many_there_were(self):
        for before in range(1, 7):
            for after in range(1, 7):
                if before != after:
                    given = asked(before, [2, 2], ("pickers", after), ("plan",))
                    self.assertEqual(given[0], [before])
                    self.assertEqual(given[1][0], after)
                    self.assertEqual(rows_told_by(*begun(before, [2, 2]), ("pickers", after)), ([2, 2], after))

    def test_as_many_as_there_are(self):
        for pickers in range(1, 7):
            self.assertEqual(asked(pickers, [2], ("pickers", pickers), ("back",), ("back",)), [[-17], [0], [-2]])

    def test_out_of_bounds(self):
        for pickers in BELOW_AND_ABOVE_PICKERS:
            self.assertEqual(asked(3, [2], ("pickers", pickers), ("plan",), ("back",)), [[-22], [3, 1, 0, 0], [0]])


class Back(unittest.TestCase):
    def test_each_change_is_taken_back(self):
        rows = [8, 3, 20]
        for change in (("row", 5), ("out", 0), ("out", 1), ("out", 2), ("minutes", 1, 90), ("pickers", 5)):
            ahead = begun(2, rows)
            self.assertNotEqual(rows_told_by(*ahead, change), (rows, 2))
            self.assertEqual(answered(*ahead, change, ("back",))[-1], [3])
            self.assertEqual(rows_told_by(*ahead, change, ("back",)), (rows, 2))

    def test_one_behind_another(self):
        calls = [("begin", 2)]
        after = [([], 2)]
        for change in (("row", 8), ("row", 9), ("pickers", 3), ("minutes", 0, 4), ("out", 0), ("row", 1)):
            calls.append(change)
            after.append(rows_told_by(*calls))
        for left in range(5, -1, -1):
            calls.append(("back",))
            self.assertEqual(answered(*calls)[-1], [left])
            self.assertEqual(rows_told_by(*calls), after[left])
        self.assertEqual(answered(*calls, ("back",))[-1], [-2])
        self.assertEqual(rows_told_by(*calls, ("back",)), ([], 2))

    def test_nothing_to_take_back(self):
        self.assertEqual(answered(("begin", 1), ("back",), ("back",), ("plan",)), [[0], [-2], [-2], [1, 0]])

    def test_ten_and_no_more(self):
        rows = [10, 11, 12, 13, 14, 15, 16, 17, 18, 19, 20, 21]
        for how_many in (9, 10, 11, 12):
            can_be = min(how_many, 10)
            backs = [("back",)] * (can_be + 1)
            self.assertEqual(asked(1, rows[:how_many], *backs), [[n] for n in range(can_be - 1, -1, -1)] + [[-2]])
            self.assertEqual(rows_told_by(*begun(1, rows[:how_many]), *backs), (rows[:how_many - can_be], 1))

    def test_the_oldest_goes_whatever_it_was(self):
        changes = [("pickers", 2)] + [("minutes", 0, n) for n in range(50, 60)]
        backs = [("back",)] * 11
        self.assertEqual(asked(1, [5], *changes, *backs)[-11:], [[n] for n in range(9, -1, -1)] + [[-2]])
        self.assertEqual(rows_told_by(*begun(1, [5]), *changes, *backs), ([5], 2))

    def test_back_undoes_no_back(self):
        self.assertEqual(
            asked(1, [5, 6], ("back",), ("plan",), ("back",), ("plan",), ("back",)),
            [[1], [1, 1], [0], [1, 0], [-2]])

    def test_room_behind_back(self):
        changes = [("minutes", 0, n) for n in range(20, 32)]
        again = [("back",)] * 4 + [("minutes", 0, 90)] + [("back",)] * 8
        self.assertEqual(
            asked(1, [5], *changes, *again)[12:],
            [[9], [8], [7], [6], [27], [6], [5], [4], [3], [2], [1], [0], [-2]])
        self.assertEqual(rows_told_by(*begun(1, [5]), *changes, *again), ([21], 1))

    def test_a_refused_call_is_nothing_to_take_back(self):
        refused = [("begin", 7), ("row", 0), ("row", 101), ("out", 2), ("minutes", 2, 5), ("minutes", 0, 0),
                   ("pickers", 0), ("pickers", 2), ("pickers", 7)]
        given = asked(2, [5, 6], *refused, ("back",), ("plan",))
        self.assertEqual(given[:-2], [[-22], [-22], [-22], [-2], [-2], [-22], [-22], [-17], [-22]])
        self.assertEqual(given[-2:], [[1], [2, 1, 0]])
        self.assertEqual(asked(2, [5] * 14, ("row", 5), ("back",), ("plan",)), [[-28], [9], [2, 7, 6]])

    def test_a_question_is_nothing_to_take_back(self):
        questions = [("least",), ("plan",), ("who", 0), ("told", 1, 1), ("fewest", 50), ("if_pickers", 3), ("more", 9),
                     ("first", 9), ("without", 0), ("exchange", 0), ("longer", 0), ("idle",), ("has", 1), ("sums",),
                     ("state",)]
        self.assertEqual(asked(2, [5, 6], *questions, ("back",), ("plan",))[-2:], [[1], [2, 1, 0]])

    def test_a_begin_is_not_taken_back(self):
        self.assertEqual(
            asked(2, [5, 6], ("begin", 3), ("row", 7), ("back",), ("back",), ("plan",))[-3:],
            [[0], [-2], [3, 0, 0, 0]])


if __name__ == "__main__":
    unittest.main()
