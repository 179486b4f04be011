"""What find is handed, which ways it tries, and how it tells those it found."""

from canonways.bounds import all_within

# Most, the first later and the last, its step, the lowest higher and the highest.
SEARCH_RANGES = ((0, 10000), (0, 4096), (0, 4096), (1, 4096), (-28, 28), (-28, 28))
# Upside down, backwards, lengths: in the order in which they are tried.
SHAPES = (
    (0, 0, 1), (0, 0, 2), (0, 0, 3), (0, 1, 1), (0, 1, 2), (0, 1, 3),
    (1, 0, 1), (1, 0, 2), (1, 0, 3), (1, 1, 1), (1, 1, 2), (1, 1, 3),
)
MOST_WAYS = 400
MOST_TOLD = 10


class Search:
    """The six numbers of find, by name."""

    def __init__(self, numbers):
        self.most = numbers[0]
        self.first_later = numbers[1]
        self.last_later = numbers[2]
        self.later_step = numbers[3]
        self.lowest = numbers[4]
        self.highest = numbers[5]


def read_search(numbers):
    """The search told by numbers; None if they aren't six numbers in their ranges."""
    if not all_within(numbers, SEARCH_RANGES):
        return None
    search = Search(numbers)
    if search.last_later < search.first_later or search.highest < search.lowest:
        return None
    return search


def has_too_many_ways(search):
    # Reckoned, not gone through: a wide search would have millions of ways.
    laters = (search.last_later - search.first_later) // search.later_step + 1
    highers = search.highest - search.lowest + 1
    return laters * highers * len(SHAPES) > MOST_WAYS


def ways_to_try(search):
    """The five numbers of each way, in the order in which they are tried."""
    ways = []
    for later in range(search.first_later, search.last_later + 1, search.later_step):
        for higher in range(search.lowest, search.highest + 1):
            ways.extend([(later, higher) + shape for shape in SHAPES])
    return ways


def cost_of_found(one):
    return one[0]


def write_found(found):
    """How many ways were found; of the first ten, the cheaper first, what it costs and its five numbers.

    Each of found is a tuple: what the way costs, and its five numbers.
    """
    numbers = [len(found)]
    # Sorting keeps as dear ones in the order in which they were tried.
    for one in sorted(found, key=cost_of_found)[:MOST_TOLD]:
        numbers.extend(one)
    return numbers
