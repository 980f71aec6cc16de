"""Choices of one entry of each of several rows, and sets of numbers, in their orders."""


def choices_in_order(rows):
    """Yield all tuples of one entry of each row; the last entry changes fastest."""
    if any([len(row) == 0 for row in rows]):
        return
    places = [0] * len(rows)
    while True:
        yield tuple([row[place] for row, place in zip(rows, places)])
        turned = len(rows) - 1
        while turned >= 0 and places[turned] == len(rows[turned]) - 1:
            places[turned] = 0
            turned = turned - 1
        if turned < 0:
            return
        places[turned] = places[turned] + 1


def count_choices(rows):
    """Return how many choices of one entry of each row there are."""
    count = 1
    for row in rows:
        count = count * len(row)
    return count


def number_sets(count):
    """Return all ascending tuples of numbers from 0 below a count, shorter ones first, then ascending."""
    found = [()]
    longest = [()]
    while longest:
        longest = [
            numbers + (number,) for numbers in longest for number in range(count)
            if numbers == () or number > numbers[-1]
        ]
        found.extend(longest)
    return found


def is_ascending(rows):
    """Tell whether each row is greater than the one ahead of it."""
    return all([rows[at] < rows[at + 1] for at in range(len(rows) - 1)])
