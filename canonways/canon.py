"""A canon, and what each call does to it or asks of it.

Each call gives back the list of numbers it answers.
"""

from canonways.bounds import all_within
from canonways.events import MOST_EVENTS, read_events, whole_length, write_events
from canonways.finding import has_too_many_ways, read_search, ways_to_try, write_found
from canonways.meetings import cost_against_all, cost_of_all, laid, meeting_costs
from canonways.prices import first_prices, read_prices
from canonways.ways import Way, can_be_had, events_by_way, read_way

WRONG_NUMBERS = -1
TOO_MANY_WAYS = -2
NOT_POSSIBLE = -3
WRONG_COUNT = -5
NO_THEME = -7
MOST_OTHER_VOICES = 4
# How much later each voice of a round is than the one ahead, how many there are.
ROUND_RANGES = ((1, 4096), (2, 6))


class Canon:
    """A theme, the other voices by their ways, and prices."""

    def __init__(self):
        # A theme has at least one event, so no events mean that there's no theme.
        self.events = []
        self.other_voices = []
        self.prices = first_prices()

    def take_theme(self, numbers):
        events = read_events(numbers)
        if events is None:
            return [WRONG_NUMBERS]
        if not 1 <= len(events) <= MOST_EVENTS:
            return [WRONG_COUNT]
        self.events = events
        self.other_voices = []
        return [len(events), whole_length(events)]

    def take_prices(self, numbers):
        prices = read_prices(numbers)
        if prices is None:
            return [WRONG_NUMBERS]
        self.prices = prices
        return [0]

    def add_way(self, numbers):
        way = read_way(numbers)
        if way is None:
            return [WRONG_NUMBERS]
        if not self.events:
            return [NO_THEME]
        if len(self.other_voices) == MOST_OTHER_VOICES:
            return [WRONG_COUNT]
        if not can_be_had(self.events, way):
            return [NOT_POSSIBLE]
        voice = self.voice_by_way(way)
        cost = cost_against_all(voice, self.all_voices(), self.prices)
        self.other_voices.append(voice)
        return [len(self.other_voices), cost]

    def drop_last(self):
        if not self.other_voices:
            return [NOT_POSSIBLE]
        self.other_voices.pop()
        return [len(self.other_voices)]

    def show_voice(self, numbers):
        way = read_way(numbers)
        if way is None:
            return [WRONG_NUMBERS]
        if not self.events:
            return [NO_THEME]
        if not can_be_had(self.events, way):
            return [NOT_POSSIBLE]
        events = events_by_way(self.events, way)
        return [len(events)] + write_events(events)

    def show_cost(self):
        if not self.events:
            return [NO_THEME]
        voices = self.all_voices()
        return [cost_of_all(voices, self.prices), len(voices)]

    def show_bad(self, numbers):
        if not self.events:
            return [NO_THEME]
        voices = self.all_voices()
        if not all_within(numbers, [(0, len(voices) - 1)] * 2) or numbers[0] == numbers[1]:
            return [WRONG_NUMBERS]
        meetings = meeting_costs(voices[numbers[0]], voices[numbers[1]], self.prices)
        bad = [meeting for meeting in meetings if meeting[1] > 0]
        answer = [len(bad)]
        for meeting in bad:
            answer.extend(meeting)
        return answer

    def find_ways(self, numbers):
        if not self.events:
            return [NO_THEME]
        search = read_search(numbers)
        if search is None:
            return [WRONG_NUMBERS]
        if has_too_many_ways(search):
            return [TOO_MANY_WAYS]
        return write_found(self.found_by(search))

    def show_round(self, numbers):
        if not self.events:
            return [NO_THEME]
        if not all_within(numbers, ROUND_RANGES):
            return [WRONG_NUMBERS]
        voices = [laid(self.events, place * numbers[0]) for place in range(numbers[1])]
        return [cost_of_all(voices, self.prices)]

    def all_voices(self):
        """Voice 0, which is the theme from time 0, and the others."""
        return [laid(self.events, 0)] + self.other_voices

    def voice_by_way(self, way):
        return laid(events_by_way(self.events, way), way.later)

    def found_by(self, search):
        """Of each way found, in the order in which they are tried: what it would cost, and its five numbers."""
        voices = self.all_voices()
        found = []
        for numbers in ways_to_try(search):
            way = Way(numbers)
            if not can_be_had(self.events, way):
                continue
            cost = cost_against_all(self.voice_by_way(way), voices, self.prices)
            if cost <= search.most:
                found.append((cost,) + numbers)
        return found
