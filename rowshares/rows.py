"""The calls on one farm, read from a list of whole numbers and answered in one."""

from rowshares.farm import Farm, answer

TOLD = 9

# How many whole numbers each call has, by its number. Told has none but its shares, which tell their count.
COUNTS = (1, 1, 1, 2, 1, 0, 0, 0, 1, 0, 1, 1, 1, 1, 1, 1, 1, 0, 1, 0, 0)


def answers(calls):
    """For each call, in order, how many numbers are answered, then these."""
    farm = Farm()
    given = []
    at = 0
    while at < len(calls):
        call = calls[at]
        start = at + 1
        count = COUNTS[call]
        if call == TOLD:
            count = calls[start]
            start += 1
        at = start + count
        numbers = answer(farm, call, calls[start:at])
        given.append(len(numbers))
        given.extend(numbers)
    return given
