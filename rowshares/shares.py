"""Shares of rows: the first picker has the first rows, the next one those behind them, and so on.

Rows are a list of minutes, shares a list of how many rows each picker has.
"""


def given_out(rows, limit):
    """How many rows each picker has if each takes rows on as long as that's no more than limit minutes.

    No row takes more than limit. Pickers who'd have none are not counted.
    """
    shares = []
    taken = 0
    for minutes in rows:
        if len(shares) == 0 or taken + minutes > limit:
            shares.append(0)
            taken = 0
        shares[-1] += 1
        taken += minutes
    return shares


def longest(rows):
    return max(rows, default=0)


def how_little(rows, pickers):
    """The least number of minutes such that by some shares nobody has more."""
    # Somebody has the longest row, and not everybody can have less than an even part.
    even_part = (sum(rows) + pickers - 1) // pickers
    limit = max(longest(rows), even_part)
    while len(given_out(rows, limit)) > pickers:
        limit += 1
    return limit


def planned(rows, pickers):
    """The plan's shares, with a number for each picker."""
    shares = given_out(rows, how_little(rows, pickers))
    return shares + [0] * (pickers - len(shares))


def picker_of(shares, i):
    """Which picker has row i, which is among those shared out."""
    picker = 0
    end = shares[0]
    while i >= end:
        picker += 1
        end += shares[picker]
    return picker


def rows_of(rows, shares, picker):
    """The minutes of each row that this picker has, in order."""
    start = sum(shares[:picker])
    return rows[start:start + shares[picker]]


def most_minutes(rows, shares):
    """How many minutes the picker has who has most."""
    most = 0
    start = 0
    for count in shares:
        end = start + count
        most = max(most, sum(rows[start:end]))
        start = end
    return most


def rows_without(rows, i):
    return rows[:i] + rows[i + 1:]


def rows_set(rows, i, minutes):
    """The rows, were row i to take so many minutes."""
    return rows[:i] + [minutes] + rows[i + 1:]


def rows_exchanged(rows, i):
    """The rows, were row i and the one behind it in each other's places."""
    return rows[:i] + [rows[i + 1], rows[i]] + rows[i + 2:]


def how_much_longer(rows, pickers, i):
    """By how many minutes row i could take longer, at the most, and how little were the same."""
    limit = how_little(rows, pickers)
    minutes = rows[i]
    # A longer row never needs fewer pickers, so the first length that is too long ends the search.
    while minutes < limit and len(given_out(rows_set(rows, i, minutes + 1), limit)) <= pickers:
        minutes += 1
    return minutes - rows[i]
