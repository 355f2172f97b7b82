"""Calls written by name, their answers call by call, and all shares gone through one by one."""

from rowshares.rows import answers

NUMBERS = {
    "begin": 0, "row": 1, "out": 2, "minutes": 3, "pickers": 4, "back": 5,
    "least": 6, "plan": 7, "who": 8, "told": 9, "fewest": 10,
    "if_pickers": 11, "more": 12, "first": 13, "without": 14, "exchange": 15,
    "longer": 16, "idle": 17, "has": 18, "sums": 19, "state": 20,
}
GREATEST = 4294967295


def written(calls):
    """The one list that the interface asks for; a call is its name and its numbers, told's are its shares."""
    line = []
    for name, *numbers in calls:
        line.append(NUMBERS[name])
        if name == "told":
            line.append(len(numbers))
        line.extend(numbers)
    assert 1 <= len(calls) <= 100 and len(line) <= 1900, "such a line is never handed in"
    return line


def read(given, how_many):
    """The answers call by call; fails if the list has more or less than that."""
    each = []
    at = 0
    while at < len(given):
        end = at + 1 + given[at]
        assert given[at] >= 1 and end <= len(given), "an answer is cut off"
        each.append(given[at + 1:end])
        at = end
    assert len(each) == how_many, "not an answer for each call"
    return each


def answered(*calls):
    return read(answers(written(calls)), len(calls))


def begun(pickers, rows):
    """The calls that begin and set up these rows."""
    return [("begin", pickers)] + [("row", minutes) for minutes in rows]


def asked(pickers, rows, *calls):
    """What calls answer, made on these rows."""
    ahead = begun(pickers, rows)
    return answered(*ahead, *calls)[len(ahead):]


def rows_told_by(*calls):
    """The rows and the pickers behind these calls, found out by questions alone."""
    ahead = answered(*calls, ("plan",))[-1]
    pickers, how_many = ahead[0], sum(ahead[1:])
    # Has tells the minutes by the plan alone; minutes tells what a row took, whatever the plan is.
    asks = [("minutes", i, 1) for i in range(how_many)]
    return [took for took, in answered(*calls, *asks)[len(calls):]], pickers


def all_shares(how_many, pickers):
    """All lists of as many numbers as pickers that are how_many together."""
    if pickers == 1:
        yield [how_many]
        return
    for own in range(how_many + 1):
        for others in all_shares(how_many - own, pickers - 1):
            yield [own] + others


def loads(rows, shares):
    """The minutes that each picker has."""
    left = list(rows)
    each = []
    for count in shares:
        each.append(sum(left[:count]))
        left = left[count:]
    return each


def least_of_all(rows, pickers):
    """How little, by all shares one by one."""
    return min(max(loads(rows, shares)) for shares in all_shares(len(rows), pickers))
