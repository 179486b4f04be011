"""Events, kept just as they are handed in: (REST, length) or (NOTE, step, length)."""

from canonways.bounds import all_within

REST = 0
NOTE = 1
MOST_EVENTS = 16
REST_RANGES = ((0, 0), (1, 512))
NOTE_RANGES = ((1, 1), (0, 69), (1, 512))


def is_note(event):
    return event[0] == NOTE


def length_of(event):
    return event[-1]


def step_of(note):
    return note[1]


def event_ranges(kind):
    # A first number that is neither kind fits neither's ranges, so either does for it.
    if kind == NOTE:
        return NOTE_RANGES
    return REST_RANGES


def read_events(numbers):
    """The events that stand one behind another in numbers; None if that's no list of events."""
    events = []
    place = 0
    while place < len(numbers):
        ranges = event_ranges(numbers[place])
        event = tuple(numbers[place:place + len(ranges)])
        if not all_within(event, ranges):
            return None
        events.append(event)
        place += len(ranges)
    return events


def write_events(events):
    """The numbers of the events, one behind another."""
    numbers = []
    for event in events:
        numbers.extend(event)
    return numbers


def whole_length(events):
    return sum([length_of(event) for event in events])


def first_step(events):
    """The step of the first note."""
    for event in events:
        if is_note(event):
            return step_of(event)
    # Without a note there's no step to turn over, so any number does.
    return 0
