"""Points 2 and 4: has, idle, sums, state; and that no question changes anything."""

import unittest

from lines import GREATEST, NUMBERS, answered, asked, begun
from rowshares.rows import answers

CHANGES = ("begin", "row", "out", "minutes", "pickers", "back")


class Ordinary(unittest.TestCase):
    def test_as_the_interface_writes_it(self):
        line = [0, 2, 19, 20, 1, 5, 1, 7, 1, 3, 17, 18, 0, 18, 1, 18, 2, 19, 20, 5, 18, 1, 20]
        self.assertEqual(answers(line), [
            1, 0, 2, 0, 0, 3, 2, 0, 0, 1, 0, 1, 1, 1, 2, 1, 5, 2, 5, 5, 3, 10, 7, 3, 1, -2, 2, 15, 7, 3, 2, 3, 3,
            1, 2, 2, 7, 7, 3, 2, 2, 2])


class Idle(unittest.TestCase):
    def test_no_rows(self):
        for pickers in range(1, 7):
            self.assertEqual(asked(pickers, [], ("idle",)), [[0]])

    def test_one_picker(self):
        for rows in ([1], [100], [5, 7, 3], [100] * 14):
            self.assertEqual(asked(1, rows, ("idle",)), [[0]])

    def test_more_pickers_than_rows(self):
        self.assertEqual(asked(6, [9, 2, 9], ("idle",)), [[34]])
        self.assertEqual(asked(6, [100], ("idle",)), [[500]])
        self.assertEqual(asked(2, [1], ("idle",)), [[1]])

    def test_a_row_far_longer_than_all_others(self):
        self.assertEqual(asked(3, [1, 1, 100, 1, 1], ("idle",)), [[196]])

    def test_rows_all_alike(self):
        self.assertEqual(asked(6, [7] * 14, ("idle",)), [[28]])
        self.assertEqual(asked(6, [100] * 12, ("idle",)), [[0]])

    def test_a_plan_that_leaves_pickers_without_rows(self):
        self.assertEqual(asked(4, [10, 1, 1, 1, 1], ("idle",)), [[26]])

    def test_behind_changes(self):
        self.assertEqual(
            asked(2, [5, 7, 3], ("idle",), ("pickers", 3), ("idle",), ("out", 1), ("idle",), ("back",), ("idle",)),
            [[5], [2], [6], [2], [7], [4], [6]])


class Has(unittest.TestCase):
    def test_each_picker(self):
        rows = [10, 20, 30, 40, 50, 60, 70, 80, 90]
        self.assertEqual(
            asked(3, rows, ("has", 0), ("has", 1), ("has", 2)),
            [[150, 10, 20, 30, 40, 50], [130, 60, 70], [170, 80, 90]])

    def test_one_without_rows(self):
        self.assertEqual(
            asked(4, [10, 1, 1, 1, 1], *[("has", p) for p in range(5)]),
            [[10, 10], [4, 1, 1, 1, 1], [0], [0], [-2]])

    def test_no_rows(self):
        for pickers in range(1, 7):
            self.assertEqual(
                asked(pickers, [], *[("has", p) for p in range(pickers + 1)]), [[0]] * pickers + [[-2]])

    def test_one_picker(self):
        rows = [31, 4, 15, 92, 65, 35, 89, 79, 32, 38, 46, 26, 43, 38]
        self.assertEqual(asked(1, rows, ("has", 0), ("has", 1)), [[633] + rows, [-2]])

    def test_more_pickers_than_rows(self):
        self.assertEqual(
            asked(6, [9, 2], *[("has", p) for p in range(7)]), [[9, 9], [2, 2], [0], [0], [0], [0], [-2]])

    def test_a_row_far_longer_than_all_others(self):
        self.assertEqual(
            asked(3, [1, 1, 100, 1, 1], ("has", 0), ("has", 1), ("has", 2)), [[2, 1, 1], [100, 100], [2, 1, 1]])

    def test_no_such_picker(self):
        for pickers in range(1, 7):
            rows = [5] * 14
            for p in (pickers, pickers + 1, 6, 7, 14, GREATEST):
                self.assertEqual(
                    asked(pickers, rows, ("has", p), ("state",), ("back",)), [[-2], [pickers, 14, 10], [9]])

    def test_how_many_pickers_there_are_now(self):
        self.assertEqual(
            asked(2, [4, 6], ("has", 2), ("pickers", 3), ("has", 2), ("back",), ("has", 2)),
            [[-2], [2], [0], [2], [-2]])

    def test_together_all_rows_in_order(self):
        rows = [13, 2, 8, 8, 1, 1, 30, 4, 4, 4, 9, 2, 17, 5]
        for pickers in range(1, 7):
            plan, *each = asked(pickers, rows, ("plan",), *[("has", p) for p in range(pickers)])
            self.assertEqual([minutes for given in each for minutes in given[1:]], rows)
            self.assertEqual([len(given) - 1 for given in each], plan[1:])
            self.assertEqual([sum(given[1:]) for given in each], [given[0] for given in each])


class Sums(unittest.TestCase):
    def test_without_rows(self):
        for pickers in range(1, 7):
            self.assertEqual(asked(pickers, [], ("sums",)), [[0, 0]])
        self.assertEqual(asked(2, [5], ("out", 0), ("sums",)), [[0], [0, 0]])

    def test_all_and_the_longest(self):
        self.assertEqual(asked(2, [1], ("sums",)), [[1, 1]])
        self.assertEqual(asked(2, [9, 2, 5], ("sums",)), [[16, 9]])
        self.assertEqual(asked(2, [2, 5, 9], ("sums",)), [[16, 9]])
        self.assertEqual(asked(6, [100] * 14, ("sums",)), [[1400, 100]])

    def test_behind_changes(self):
        self.assertEqual(
            asked(2, [9, 2, 5], ("minutes", 1, 70), ("sums",), ("out", 0), ("sums",), ("back",), ("back",), ("sums",)),
            [[2], [84, 70], [2], [75, 70], [4], [3], [16, 9]])


class State(unittest.TestCase):
    def test_without_rows(self):
        for pickers in range(1, 7):
            self.assertEqual(answered(("begin", pickers), ("state",)), [[0], [pickers, 0, 0]])

    def test_behind_each_change(self):
        self.assertEqual(
            answered(("begin", 2), ("row", 8), ("state",), ("row", 9), ("state",), ("pickers", 3), ("state",),
                     ("minutes", 0, 4), ("state",), ("out", 0), ("state",))[2::2],
            [[2, 1, 1], [2, 2, 2], [3, 2, 3], [3, 2, 4], [3, 1, 5]])

    def test_ten_and_no_more(self):
        calls = [("begin", 1)]
        for minutes in range(14):
            calls += [("row", minutes + 1), ("state",)]
        self.assertEqual(answered(*calls)[2::2], [[1, n, min(n, 10)] for n in range(1, 15)])

    def test_behind_back(self):
        calls = [("back",), ("state",)] * 11
        self.assertEqual(
            asked(1, [3] * 12, *calls)[1::2], [[1, 12 - n, 10 - n] for n in range(1, 11)] + [[1, 2, 0]])

    def test_ten_again_behind_back(self):
        changes = [("minutes", 0, n) for n in range(20, 32)]
        self.assertEqual(
            asked(1, [5], *changes, ("back",), ("back",), ("state",), ("row", 9), ("state",), ("row", 9), ("state",),
                  ("row", 9), ("state",))[14::2],
            [[1, 1, 8], [1, 2, 9], [1, 3, 10], [1, 4, 10]])

    def test_behind_begin_once_more(self):
        self.assertEqual(
            asked(3, [5] * 12, ("begin", 2), ("state",), ("row", 9), ("state",), ("back",), ("state",)),
            [[0], [2, 0, 0], [0], [2, 1, 1], [0], [2, 0, 0]])

    def test_behind_a_refusal(self):
        refused = [("begin", 0), ("begin", 7), ("row", 0), ("row", 101), ("out", 2), ("minutes", 2, 5),
                   ("minutes", 0, 0), ("pickers", 2), ("pickers", 7), ("who", 2), ("told", 1), ("fewest", 1),
                   ("if_pickers", 0), ("more", 0), ("first", 101), ("without", 2), ("exchange", 1), ("longer", 2),
                   ("has", 2)]
        for call in refused:
            given = asked(2, [5, 6], call, ("state",), ("least",), ("plan",), ("has", 0), ("has", 1))
            self.assertLess(given[0][0], 0, call)
            self.assertEqual(len(given[0]), 1, call)
            self.assertEqual(given[1:], [[2, 2, 2], [6], [2, 1, 1], [5, 5], [6, 6]], call)


class NothingChanges(unittest.TestCase):
    QUESTIONS = (
        ("least",), ("plan",), ("who", 0), ("who", 14), ("told", 2, 1), ("told",), ("fewest", 100), ("fewest", 0),
        ("if_pickers", 1), ("if_pickers", 6), ("if_pickers", 0), ("if_pickers", 7), ("more", 1), ("more", 100),
        ("more", 0), ("more", 101), ("first", 1), ("first", 100), ("first", 0), ("first", 101), ("without", 0),
        ("without", 2), ("without", GREATEST), ("exchange", 0), ("exchange", 1), ("exchange", GREATEST),
        ("longer", 0), ("longer", 2), ("longer", GREATEST), ("idle",), ("has", 0), ("has", 1), ("has", GREATEST),
        ("sums",), ("state",),
    )
    BEHIND = (
        ("least",), ("plan",), ("state",), ("sums",), ("idle",), ("has", 0), ("back",), ("least",), ("plan",),
        ("state",), ("back",), ("least",), ("plan",), ("has", 0), ("state",),
    )

    def test_every_question_is_asked(self):
        self.assertEqual({name for name, *numbers in self.QUESTIONS}, set(NUMBERS) - set(CHANGES))

    def test_each_by_itself(self):
        for rows in ([], [5], [5, 7, 3], [9, 9, 9], [1, 1, 100, 1, 1], list(range(14, 0, -1))):
            for pickers in (1, 2, 6):
                ahead = begun(pickers, rows) + [("pickers", 3)]
                without = answered(*ahead, *self.BEHIND)[len(ahead):]
                for question in self.QUESTIONS:
                    given = answered(*ahead, question, *self.BEHIND)[len(ahead) + 1:]
                    self.assertEqual(given, without, (rows, pickers, question))

    def test_all_together(self):
        ahead = begun(2, [5, 7, 3])
        without = answered(*ahead, *self.BEHIND)[len(ahead):]
        self.assertEqual(answered(*ahead, *self.QUESTIONS, *self.BEHIND)[-len(self.BEHIND):], without)

    def test_each_is_answered_alike_twice(self):
        for question in self.QUESTIONS:
            once, twice = asked(2, [5, 7, 3], question, question)
            self.assertEqual(once, twice, question)


if __name__ == "__main__":
    unittest.main()
