"""Prices of gaps on the beat and off it, and of parallels."""

from canonways.bounds import all_within

# Seven on the beat, seven off it, of parallels, the beat.
FIRST_PRICES = (0, 10, 0, 6, 0, 0, 10, 0, 3, 0, 2, 0, 0, 3, 8, 16)


class Prices:
    """The sixteen numbers of prices, by name."""

    def __init__(self, numbers):
        self.on_beat = tuple(numbers[0:7])
        self.off_beat = tuple(numbers[7:14])
        self.parallels = numbers[14]
        self.beat = numbers[15]

    def price_of_gap(self, left, time):
        """What a gap costs by what's left of it by 7, at a time."""
        if time % self.beat == 0:
            return self.on_beat[left]
        return self.off_beat[left]


def first_prices():
    return Prices(FIRST_PRICES)


def read_prices(numbers):
    """The prices told by numbers; None if they aren't sixteen numbers in their ranges."""
    ranges = [(0, 100)] * 15 + [(1, 512)]
    if not all_within(numbers, ranges):
        return None
    return Prices(numbers)
