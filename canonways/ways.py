"""Ways in which a voice has the theme."""

from canonways.bounds import all_within
from canonways.events import NOTE, REST, first_step, is_note, length_of, step_of

WAY_RANGES = ((0, 4096), (-28, 28), (0, 1), (0, 1), (1, 3))
TWICE_AS_LONG = 2
HALF_AS_LONG = 3


class Way:
    """The five numbers of a way, by name."""

    def __init__(self, numbers):
        self.later = numbers[0]
        self.higher = numbers[1]
        self.upside_down = numbers[2] == 1
        self.backwards = numbers[3] == 1
        self.lengths = numbers[4]


def read_way(numbers):
    """The way told by numbers; None if they aren't five numbers in their ranges."""
    if not all_within(numbers, WAY_RANGES):
        return None
    return Way(numbers)


def can_be_had(events, way):
    """False if the way halves a length that is odd."""
    if way.lengths != HALF_AS_LONG:
        return True
    return all([length_of(event) % 2 == 0 for event in events])


def events_by_way(events, way):
    """The theme's events as a voice has them by a way in which they can be had."""
    first = first_step(events)
    changed = [event_by_way(event, first, way) for event in events]
    if way.backwards:
        changed.reverse()
    return changed


def event_by_way(event, first, way):
    length = length_by_way(length_of(event), way)
    if is_note(event):
        return (NOTE, step_by_way(step_of(event), first, way), length)
    return (REST, length)


def step_by_way(step, first, way):
    if way.upside_down:
        return first - (step - first) + way.higher
    return step + way.higher


def length_by_way(length, way):
    if way.lengths == TWICE_AS_LONG:
        return length * 2
    if way.lengths == HALF_AS_LONG:
        return length // 2
    return length
