"""Shares of rows: the first picker has the first rows, the next one those behind them, and so on.

Rows are a list of minutes, shares a list of how many rows each picker has.
"""


def given_out(rows, limit):
    """How many rows each picker has if each takes rows on as long as that's no more than limit minutes.

    No row takes more than limit. Pickers who'd have none are not counted.
    """
    shares = []
    taken = 0
    for minutes in rows:
        if len(shares) == 0 or taken + minutes > limit:
            shares.append(0)
            taken = 0
        shares[-1] += 1
        taken += minutes
    return shares


def longest(rows):
    return max(rows, default=0)


def how_little(rows, pickers):
    """The least number of minutes such that by some shares nobody has more."""
    # Somebody has the longest row, and not everybody can have less than an even part.
    even_part = (sum(rows) + pickers - 1) // pickers
    limit = max(longest(rows), even_part)
    while len(given_out(rows, limit)) > pickers:
        limit += 1
    return limit


def planned(rows, pickers):
    """The plan's shares, with a number for each picker."""
    shares = given_out(rows, how_little(rows, pickers))
    return shares + [0] * (pickers - len(shares))


def picker_of(shares, i):
    """Which picker has row i, which is among those shared out."""
    picker = 0
    end = shares[0]
    while i >= end:
        picker += 1
        end += shares[picker]
    return picker


def most_minutes(rows, shares):
    """How many minutes the picker has who has most."""
    most = 0
    start = 0
    for count in shares:
        end = start + count
        most = max(most, sum(rows[start:end]))
        start = end
    return most
