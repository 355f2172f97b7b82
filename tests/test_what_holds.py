"""What holds, a to e, held against all shares of small rows; and long lines against a model of the calls."""

import itertools
import random
import unittest

from lines import GREATEST, NUMBERS, all_shares, answered, asked, begun, least_of_all, loads

LONGER_ROWS = (
    [100, 1, 1, 1, 1, 1, 1, 1, 1, 1, 1, 1, 1, 1],
    [1, 1, 1, 1, 1, 1, 1, 1, 1, 1, 1, 1, 1, 100],
    [31, 4, 15, 92, 65, 35, 89, 79, 32, 38, 46, 26, 43, 38],
    [100, 99, 100, 99, 100, 99, 100, 99, 100, 99, 100, 99, 100],
    [27, 18, 28, 18, 28, 45, 90, 45, 23, 53, 60],
    [14, 13, 12, 11, 10, 9, 8, 7, 6, 5, 4, 3, 2, 1],
    [7] * 14,
)


def small_rows():
    for how_many in range(5):
        yield from (list(rows) for rows in itertools.product((1, 2, 3, 7), repeat=how_many))
    yield from (list(rows) for rows in itertools.product((2, 5), repeat=6))


def fewest_of_all(rows, most):
    """How few pickers are enough, by all shares one by one."""
    pickers = 0
    while True:
        if pickers == 0:
            enough = rows == []
        else:
            enough = any(max(loads(rows, shares)) <= most for shares in all_shares(len(rows), pickers))
        if enough:
            return pickers
        pickers += 1


class WhatHolds(unittest.TestCase):
    def hold_least_and_plan(self, rows, pickers):
        least, plan = asked(pickers, rows, ("least",), ("plan",))
        self.assertEqual(least, [least_of_all(rows, pickers)], (rows, pickers))
        self.assertEqual(plan[0], len(plan) - 1)
        self.assertEqual(plan[0], pickers)
        self.assertEqual(sum(plan[1:]), len(rows))
        self.assertEqual([max(loads(rows, plan[1:]))], least, (rows, pickers))
        self.hold_plan_is_greedy(rows, plan[1:], least[0])

    def hold_plan_is_greedy(self, rows, plan, least):
        end = 0
        for count in plan:
            start, end = end, end + count
            if end < len(rows):
                self.assertGreater(sum(rows[start:end + 1]), least, (rows, plan))

    def test_a_least_and_plan(self):
        for rows in small_rows():
            for pickers in range(1, 7):
                self.hold_least_and_plan(rows, pickers)

    def test_a_longer_rows(self):
        for rows in LONGER_ROWS:
            for pickers in range(1, 7):
                self.hold_least_and_plan(rows, pickers)

    def test_a_told_of_all_shares(self):
        for rows in ([], [5], [1, 2], [7, 1, 3], [2, 2, 2, 2], [1, 9, 2, 4, 3], [5, 2, 5, 5, 2, 2]):
            for pickers in range(1, 7):
                least = least_of_all(rows, pickers)
                shares_left = list(all_shares(len(rows), pickers))
                while shares_left:
                    some, shares_left = shares_left[:90], shares_left[90:]
                    given = asked(pickers, rows, *[("told", *shares) for shares in some])
                    most = [max(loads(rows, shares)) for shares in some]
                    self.assertEqual(given, [[m, m - least] for m in most])
                    self.assertTrue(all(more >= 0 for m, more in given))

    def test_b_fewest(self):
        for rows in small_rows():
            limits = list(range(sum(rows) + 2)) + [GREATEST]
            given = asked(1, rows, *[("fewest", m) for m in limits])
            longest = max(rows, default=0)
            self.assertEqual(given, [[fewest_of_all(rows, m) if m >= longest else -33] for m in limits], rows)

    def test_b_fewest_and_least(self):
        for rows in LONGER_ROWS:
            for pickers in range(1, 7):
                (least,), = asked(pickers, rows, ("least",))
                (enough,), (below,) = asked(1, rows, ("fewest", least), ("fewest", least - 1))
                self.assertLessEqual(enough, pickers)
                self.assertTrue(below == -33 or below > pickers, (rows, pickers))

    def test_c_from_the_other_end(self):
        for rows in itertools.chain(small_rows(), LONGER_ROWS):
            for pickers in range(1, 7):
                self.assertEqual(asked(pickers, rows, ("least",)), asked(pickers, rows[::-1], ("least",)))

    def test_d_bounds(self):
        for rows in itertools.chain(small_rows(), LONGER_ROWS):
            for pickers in range(1, 7):
                (least,), = asked(pickers, rows, ("least",))
                self.assertGreaterEqual(least, max(rows, default=0))
                self.assertGreaterEqual(least * pickers, sum(rows))
                if rows:
                    self.assertLess(least * pickers, max(rows) * pickers + sum(rows))

    def test_c_from_the_other_end_were_it_otherwise(self):
        for rows in LONGER_ROWS:
            last = len(rows) - 1
            for pickers in range(1, 7):
                ahead = [("longer", i) for i in range(last + 1)] + [("without", i) for i in range(last + 1)]
                ahead += [("exchange", i) for i in range(last)] + [("more", 40), ("first", 40), ("idle",), ("sums",)]
                behind = [("longer", last - i) for i in range(last + 1)]
                behind += [("without", last - i) for i in range(last + 1)]
                behind += [("exchange", last - 1 - i) for i in range(last)]
                behind += [("first", 40), ("more", 40), ("idle",), ("sums",)]
                self.assertEqual(asked(pickers, rows, *ahead), asked(pickers, rows[::-1], *behind), (rows, pickers))

    def test_e_if_pickers(self):
        for rows in small_rows():
            least = [[least_of_all(rows, k)] for k in range(1, 7)]
            self.assertEqual(asked(4, rows, *[("if_pickers", k) for k in range(1, 7)]), least, rows)
            self.assertEqual(least, sorted(least, reverse=True), rows)

    def test_e_more_and_first(self):
        for rows in small_rows():
            for pickers in (1, 2, 3, 6):
                least = least_of_all(rows, pickers)
                for minutes in (1, 4, 100):
                    (more,), (first,) = asked(pickers, rows, ("more", minutes), ("first", minutes))
                    self.assertEqual(more, least_of_all(rows + [minutes], pickers), (rows, pickers, minutes))
                    self.assertEqual(first, least_of_all([minutes] + rows, pickers), (rows, pickers, minutes))
                    self.assertTrue(least <= more <= least + minutes, (rows, pickers, minutes))
                    self.assertTrue(least <= first <= least + minutes, (rows, pickers, minutes))

    def test_e_without_and_exchange(self):
        for rows in small_rows():
            for pickers in (1, 2, 3, 6):
                for i in range(len(rows)):
                    without, exchange = asked(pickers, rows, ("without", i), ("exchange", i))
                    self.assertEqual(without, [least_of_all(rows[:i] + rows[i + 1:], pickers)], (rows, pickers, i))
                    if i + 1 == len(rows):
                        self.assertEqual(exchange, [-2], (rows, pickers, i))
                    else:
                        other = list(rows)
                        other[i], other[i + 1] = rows[i + 1], rows[i]
                        self.assertEqual(exchange, [least_of_all(other, pickers)], (rows, pickers, i))

    def test_e_just_so_much_longer(self):
        for rows in small_rows():
            for pickers in (1, 2, 3, 4, 6):
                least = least_of_all(rows, pickers)
                given = asked(pickers, rows, *[("longer", i) for i in range(len(rows))], ("least",))
                for i, (x,) in enumerate(given[:-1]):
                    ahead, behind = rows[:i], rows[i + 1:]
                    self.assertEqual(least_of_all(ahead + [rows[i] + x] + behind, pickers), least, (rows, pickers, i))
                    self.assertGreater(
                        least_of_all(ahead + [rows[i] + x + 1] + behind, pickers), least, (rows, pickers, i))

    def test_what_each_has_and_misses(self):
        for rows in itertools.chain(small_rows(), LONGER_ROWS):
            for pickers in range(1, 7):
                (least,), plan, (idle,), *each = asked(
                    pickers, rows, ("least",), ("plan",), ("idle",), *[("has", p) for p in range(pickers)])
                self.assertEqual([given[0] for given in each], loads(rows, plan[1:]), (rows, pickers))
                self.assertEqual([minutes for given in each for minutes in given[1:]], rows, (rows, pickers))
                self.assertEqual(idle, sum(least - given[0] for given in each), (rows, pickers))

    def test_e_a_picker_more(self):
        for rows in itertools.chain(small_rows(), LONGER_ROWS):
            calls = [("least",)]
            for pickers in range(2, 7):
                calls += [("pickers", pickers), ("least",)]
            least = [given[0] for given in asked(1, rows, *calls)[::2]]
            self.assertEqual(least, sorted(least, reverse=True), rows)

    def test_e_a_row_more(self):
        for rows in small_rows():
            for pickers in (1, 2, 3, 6):
                for minutes in (1, 4, 100):
                    (before,), number, (after,) = asked(pickers, rows, ("least",), ("row", minutes), ("least",))
                    (ahead,), = asked(pickers, [minutes] + rows, ("least",))
                    self.assertTrue(before <= after <= before + minutes, (rows, pickers, minutes))
                    self.assertTrue(before <= ahead <= before + minutes, (rows, pickers, minutes))


class Model:
    """The calls once more, in the document's words and with no regard to speed: whole states are kept."""

    def __init__(self):
        self.states = None

    def answer(self, name, *numbers):
        if name == "begin":
            if numbers[0] not in range(1, 7):
                return [-22]
            self.states = [((), numbers[0])]
            return [0]
        if self.states is None:
            return [-61]
        return getattr(self, name)(*self.states[-1], *numbers)

    def keep(self, rows, pickers):
        self.states.append((tuple(rows), pickers))
        if len(self.states) > 11:
            self.states.pop(0)

    def row(self, rows, pickers, minutes):
        if minutes not in range(1, 101):
            return [-22]
        if len(rows) >= 14:
            return [-28]
        self.keep(rows + (minutes,), pickers)
        return [len(rows)]

    def out(self, rows, pickers, i):
        if i not in range(len(rows)):
            return [-2]
        self.keep([minutes for j, minutes in enumerate(rows) if j != i], pickers)
        return [len(rows) - 1]

    def minutes(self, rows, pickers, i, n):
        if i not in range(len(rows)):
            return [-2]
        if n not in range(1, 101):
            return [-22]
        self.keep([n if j == i else minutes for j, minutes in enumerate(rows)], pickers)
        return [rows[i]]

    def pickers(self, rows, pickers, k):
        if k not in range(1, 7):
            return [-22]
        if k == pickers:
            return [-17]
        self.keep(rows, k)
        return [pickers]

    def back(self, rows, pickers):
        if len(self.states) == 1:
            return [-2]
        self.states.pop()
        return [len(self.states) - 1]

    def how_little(self, rows, pickers):
        """By where the last picker's rows start, one picker after another."""
        best = [sum(rows[:end]) for end in range(len(rows) + 1)]
        for picker in range(1, pickers):
            best = [min(max(best[start], sum(rows[start:end])) for start in range(end + 1)) for end in range(len(best))]
        return best[-1]

    def holders(self, rows, most):
        """The picker of each row, given out as far as most goes."""
        picker, left, each = 0, most, []
        for minutes in rows:
            if minutes > left:
                picker, left = picker + 1, most
            left -= minutes
            each.append(picker)
        return each

    def least(self, rows, pickers):
        return [self.how_little(rows, pickers)]

    def plan(self, rows, pickers):
        each = self.holders(rows, self.how_little(rows, pickers))
        return [pickers] + [each.count(picker) for picker in range(pickers)]

    def who(self, rows, pickers, i):
        if i not in range(len(rows)):
            return [-2]
        return [self.holders(rows, self.how_little(rows, pickers))[i]]

    def told(self, rows, pickers, *shares):
        if len(shares) != pickers or sum(shares) != len(rows):
            return [-22]
        most = max(loads(rows, shares))
        return [most, most - self.how_little(rows, pickers)]

    def fewest(self, rows, pickers, m):
        if any(minutes > m for minutes in rows):
            return [-33]
        return [self.needed(rows, m)]

    def needed(self, rows, most):
        return len(set(self.holders(rows, most)))

    def if_pickers(self, rows, pickers, k):
        return [self.how_little(rows, k)] if k in range(1, 7) else [-22]

    def more(self, rows, pickers, minutes):
        return [self.how_little(rows + (minutes,), pickers)] if minutes in range(1, 101) else [-22]

    def first(self, rows, pickers, minutes):
        return [self.how_little((minutes,) + rows, pickers)] if minutes in range(1, 101) else [-22]

    def without(self, rows, pickers, i):
        if i not in range(len(rows)):
            return [-2]
        return [self.how_little([minutes for j, minutes in enumerate(rows) if j != i], pickers)]

    def exchange(self, rows, pickers, i):
        if i not in range(len(rows) - 1):
            return [-2]
        places = {i: i + 1, i + 1: i}
        return [self.how_little([rows[places.get(j, j)] for j in range(len(rows))], pickers)]

    def longer(self, rows, pickers, i):
        """The most that is left to who has row i, whichever rows they have, if the others are enough for the rest."""
        if i not in range(len(rows)):
            return [-2]
        most = self.how_little(rows, pickers)
        left = []
        for start in range(i + 1):
            for end in range(i + 1, len(rows) + 1):
                if self.needed(rows[:start], most) + 1 + self.needed(rows[end:], most) <= pickers:
                    left.append(most - sum(rows[start:end]))
        return [max(left)]

    def idle(self, rows, pickers):
        most = self.how_little(rows, pickers)
        each = self.holders(rows, most)
        return [sum(most - sum(n for n, own in zip(rows, each) if own == picker) for picker in range(pickers))]

    def has(self, rows, pickers, p):
        if p not in range(pickers):
            return [-2]
        own = [n for n, picker in zip(rows, self.holders(rows, self.how_little(rows, pickers))) if picker == p]
        return [sum(own)] + own

    def sums(self, rows, pickers):
        return [sum(rows), max(rows, default=0)]

    def state(self, rows, pickers):
        return [pickers, len(rows), len(self.states) - 1]


def some_shares(chance, model):
    rows, pickers = model.states[-1] if model.states else ((), 1)
    if chance.random() < 0.25:
        return [chance.choice((0, 1, 2, GREATEST)) for picker in range(chance.randint(0, 16))]
    cuts = sorted(chance.randint(0, len(rows)) for cut in range(pickers - 1))
    return [end - start for start, end in zip([0] + cuts, cuts + [len(rows)])]


def some_call(chance, model):
    name = chance.choice(("row",) * 12 + ("back", "minutes") * 3 + tuple(NUMBERS))
    if name == "begin":
        return name, chance.choice((0, 7, GREATEST) * 2 + (1, 2, 3, 4, 5, 6))
    i = chance.choice(list(range(15)) + [GREATEST])
    n = chance.choice((0, 1, 100, 101, GREATEST) + tuple(chance.randint(1, 100) for pick in range(20)))
    numbers = {
        "row": [n], "out": [i], "minutes": [i, n], "pickers": [chance.randint(0, 7)], "who": [i],
        "if_pickers": [chance.choice((0, 1, 2, 3, 4, 5, 6, 7, GREATEST))], "more": [n], "first": [n],
        "without": [i], "exchange": [i], "longer": [i], "has": [chance.choice((0, 1, 2, 3, 4, 5, 6, GREATEST))],
        "fewest": [chance.choice((n, n * 2, 100, 150, GREATEST)) % (GREATEST + 1)],
    }
    if name == "told":
        return name, *some_shares(chance, model)
    return name, *numbers.get(name, [])


class LongLines(unittest.TestCase):
    def test_against_the_model(self):
        seen = set()
        lines_of_all_sorts = 0
        for seed in range(400):
            chance = random.Random(seed)
            model = Model()
            calls, awaited = [], []
            for at in range(100):
                call = ("begin", chance.randint(1, 6)) if at == seed % 4 else some_call(chance, model)
                calls.append(call)
                awaited.append(model.answer(*call))
                seen.add((call[0], min(awaited[-1][0], 0)))
            self.assertEqual(answered(*calls), awaited, seed)
            lines_of_all_sorts += {name for name, *numbers in calls} == set(NUMBERS)
        self.assertGreater(lines_of_all_sorts, 10)
        refusals = {pair for pair in seen if pair[1] < 0 and pair[1] != -61}
        self.assertEqual(refusals, {
            ("begin", -22), ("row", -22), ("row", -28), ("out", -2), ("minutes", -2), ("minutes", -22),
            ("pickers", -22), ("pickers", -17), ("back", -2), ("who", -2), ("told", -22), ("fewest", -33),
            ("if_pickers", -22), ("more", -22), ("first", -22), ("without", -2), ("exchange", -2), ("longer", -2),
            ("has", -2)})
        self.assertEqual({name for name, lowest in seen if lowest == 0}, set(NUMBERS))
        self.assertEqual({name for name, lowest in seen if lowest == -61}, set(NUMBERS) - {"begin"})


if __name__ == "__main__":
    unittest.main()
