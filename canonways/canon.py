"""A canon, and what each call does to it or asks of it.

Each call gives back the list of numbers it answers.
"""

from canonways.events import MOST_EVENTS, read_events, whole_length, write_events
from canonways.meetings import cost_of_two, laid
from canonways.prices import first_prices, read_prices
from canonways.ways import can_be_had, events_by_way, read_way

WRONG_NUMBERS = -1
NOT_POSSIBLE = -3
WRONG_COUNT = -5
NO_THEME = -7
MOST_OTHER_VOICES = 4


class Canon:
    """A theme, the other voices by their ways, and prices."""

    def __init__(self):
        # A theme has at least one event, so no events mean that there's no theme.
        self.events = []
        self.other_voices = []
        self.prices = first_prices()

    def take_theme(self, numbers):
        events = read_events(numbers)
        if events is None:
            return [WRONG_NUMBERS]
        if not 1 <= len(events) <= MOST_EVENTS:
            return [WRONG_COUNT]
        self.events = events
        self.other_voices = []
        return [len(events), whole_length(events)]

    def take_prices(self, numbers):
        prices = read_prices(numbers)
        if prices is None:
            return [WRONG_NUMBERS]
        self.prices = prices
        return [0]

    def add_way(self, numbers):
        way = read_way(numbers)
        if way is None:
            return [WRONG_NUMBERS]
        if not self.events:
            return [NO_THEME]
        if len(self.other_voices) == MOST_OTHER_VOICES:
            return [WRONG_COUNT]
        if not can_be_had(self.events, way):
            return [NOT_POSSIBLE]
        voice = laid(events_by_way(self.events, way), way.later)
        cost = self.cost_against_all(voice)
        self.other_voices.append(voice)
        return [len(self.other_voices), cost]

    def drop_last(self):
        if not self.other_voices:
            return [NOT_POSSIBLE]
        self.other_voices.pop()
        return [len(self.other_voices)]

    def show_voice(self, numbers):
        way = read_way(numbers)
        if way is None:
            return [WRONG_NUMBERS]
        if not self.events:
            return [NO_THEME]
        if not can_be_had(self.events, way):
            return [NOT_POSSIBLE]
        events = events_by_way(self.events, way)
        return [len(events)] + write_events(events)

    def all_voices(self):
        """Voice 0, which is the theme from time 0, and the others."""
        return [laid(self.events, 0)] + self.other_voices

    def cost_against_all(self, voice):
        return sum([cost_of_two(there, voice, self.prices) for there in self.all_voices()])
