"""Whether numbers that are handed in are as many as told, each in its range."""


def within(number, low, high):
    return low <= number <= high


def all_within(numbers, ranges):
    """True if there are as many numbers as ranges (pairs: lowest, highest), each number in its own."""
    if len(numbers) != len(ranges):
        return False
    return all([within(number, pair[0], pair[1]) for number, pair in zip(numbers, ranges)])
