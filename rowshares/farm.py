"""A farm, and what each call on it answers: a list of numbers; a refusal is its number alone."""

from rowshares.shares import given_out, how_little, how_much_longer, longest, most_minutes, picker_of, planned
from rowshares.shares import rows_exchanged, rows_of, rows_set, rows_without

NONE_SUCH = -2
ALREADY_SO = -17
OUT_OF_BOUNDS = -22
FULL = -28
TOO_LONG = -33
NOT_BEGUN = -61

MOST_ROWS = 14
MOST_MINUTES = 100
MOST_PICKERS = 6
CHANGES_KEPT = 10

BEGIN = 0


class Farm:
    def __init__(self):
        self.begun = False
        self.pickers = 0
        self.rows = []
        self.past = []

    def begin(self, pickers):
        self.begun = True
        self.pickers = pickers
        self.rows = []
        self.past = []

    def has_row(self, i):
        return i < len(self.rows)

    def has_picker(self, p):
        return p < self.pickers

    def change(self, rows, pickers):
        # The past keeps the list of rows itself: callers hand in a new one and never change the old.
        self.past = (self.past + [(self.rows, self.pickers)])[-CHANGES_KEPT:]
        self.rows = rows
        self.pickers = pickers

    def take_back(self):
        before = self.past[-1]
        self.past = self.past[:-1]
        self.rows = before[0]
        self.pickers = before[1]


def are_minutes(n):
    return 1 <= n <= MOST_MINUTES


def are_pickers(k):
    return 1 <= k <= MOST_PICKERS


def answer_begin(farm, numbers):
    pickers = numbers[0]
    if not are_pickers(pickers):
        return [OUT_OF_BOUNDS]
    farm.begin(pickers)
    return [0]


def answer_row(farm, numbers):
    minutes = numbers[0]
    if not are_minutes(minutes):
        return [OUT_OF_BOUNDS]
    if len(farm.rows) == MOST_ROWS:
        return [FULL]
    farm.change(farm.rows + [minutes], farm.pickers)
    return [len(farm.rows) - 1]


def answer_out(farm, numbers):
    i = numbers[0]
    if not farm.has_row(i):
        return [NONE_SUCH]
    farm.change(rows_without(farm.rows, i), farm.pickers)
    return [len(farm.rows)]


def answer_minutes(farm, numbers):
    i = numbers[0]
    minutes = numbers[1]
    if not farm.has_row(i):
        return [NONE_SUCH]
    if not are_minutes(minutes):
        return [OUT_OF_BOUNDS]
    before = farm.rows[i]
    farm.change(rows_set(farm.rows, i, minutes), farm.pickers)
    return [before]


def answer_pickers(farm, numbers):
    pickers = numbers[0]
    if not are_pickers(pickers):
        return [OUT_OF_BOUNDS]
    before = farm.pickers
    if pickers == before:
        return [ALREADY_SO]
    farm.change(farm.rows, pickers)
    return [before]


def answer_back(farm, numbers):
    if len(farm.past) == 0:
        return [NONE_SUCH]
    farm.take_back()
    return [len(farm.past)]


def answer_least(farm, numbers):
    return [how_little(farm.rows, farm.pickers)]


def answer_plan(farm, numbers):
    return [farm.pickers] + planned(farm.rows, farm.pickers)


def answer_who(farm, numbers):
    i = numbers[0]
    if not farm.has_row(i):
        return [NONE_SUCH]
    return [picker_of(planned(farm.rows, farm.pickers), i)]


def answer_told(farm, shares):
    if len(shares) != farm.pickers or sum(shares) != len(farm.rows):
        return [OUT_OF_BOUNDS]
    most = most_minutes(farm.rows, shares)
    return [most, most - how_little(farm.rows, farm.pickers)]


def answer_fewest(farm, numbers):
    limit = numbers[0]
    if longest(farm.rows) > limit:
        return [TOO_LONG]
    return [len(given_out(farm.rows, limit))]


def answer_if_pickers(farm, numbers):
    pickers = numbers[0]
    if not are_pickers(pickers):
        return [OUT_OF_BOUNDS]
    return [how_little(farm.rows, pickers)]


def answer_more(farm, numbers):
    minutes = numbers[0]
    if not are_minutes(minutes):
        return [OUT_OF_BOUNDS]
    return [how_little(farm.rows + [minutes], farm.pickers)]


def answer_first(farm, numbers):
    minutes = numbers[0]
    if not are_minutes(minutes):
        return [OUT_OF_BOUNDS]
    return [how_little([minutes] + farm.rows, farm.pickers)]


def answer_without(farm, numbers):
    i = numbers[0]
    if not farm.has_row(i):
        return [NONE_SUCH]
    return [how_little(rows_without(farm.rows, i), farm.pickers)]


def answer_exchange(farm, numbers):
    i = numbers[0]
    if not farm.has_row(i + 1):
        return [NONE_SUCH]
    return [how_little(rows_exchanged(farm.rows, i), farm.pickers)]


def answer_longer(farm, numbers):
    i = numbers[0]
    if not farm.has_row(i):
        return [NONE_SUCH]
    return [how_much_longer(farm.rows, farm.pickers, i)]


def answer_idle(farm, numbers):
    return [farm.pickers * how_little(farm.rows, farm.pickers) - sum(farm.rows)]


def answer_has(farm, numbers):
    picker = numbers[0]
    if not farm.has_picker(picker):
        return [NONE_SUCH]
    own = rows_of(farm.rows, planned(farm.rows, farm.pickers), picker)
    return [sum(own)] + own


def answer_sums(farm, numbers):
    return [sum(farm.rows), longest(farm.rows)]


def answer_state(farm, numbers):
    return [farm.pickers, len(farm.rows), len(farm.past)]


# In the order of the calls' numbers.
ANSWERERS = (
    answer_begin,
    answer_row,
    answer_out,
    answer_minutes,
    answer_pickers,
    answer_back,
    answer_least,
    answer_plan,
    answer_who,
    answer_told,
    answer_fewest,
    answer_if_pickers,
    answer_more,
    answer_first,
    answer_without,
    answer_exchange,
    answer_longer,
    answer_idle,
    answer_has,
    answer_sums,
    answer_state,
)


def answer(farm, call, numbers):
    """What the call with this number answers; numbers are what is handed over with it."""
    if call != BEGIN and not farm.begun:
        return [NOT_BEGUN]
    return ANSWERERS[call](farm, numbers)
