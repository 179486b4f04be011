"""Canons at large, against costs reckoned tick by tick straight from the document's words."""

import random
import unittest

from calling import FIRST_OFF, FIRST_ON, ask, prices, theme, way

FIRST = (FIRST_ON, FIRST_OFF, 8, 16)


def notes_by(events, numbers):
    """When a voice's events begin, and for each time of a note its step."""
    later, higher, upside_down, backwards, lengths = numbers
    steps = [event[1] for event in events if event[0] == 1]
    begins = []
    on = {}
    time = later
    for event in (events[::-1] if backwards else events):
        length = {1: event[-1], 2: event[-1] * 2, 3: event[-1] // 2}[lengths]
        begins.append(time)
        if event[0] == 1:
            step = 2 * steps[0] - event[1] if upside_down else event[1]
            for tick in range(time, time + length):
                on[tick] = step + higher
        time += length
    return begins, on


def cost_of(one, other, kept):
    on_beat, off_beat, parallels, beat = kept
    times = sorted({*one[0], *other[0]})
    cost = 0
    for place, time in enumerate(times):
        if time not in one[1] or time not in other[1]:
            continue
        left = abs(one[1][time] - other[1][time]) % 7
        cost += on_beat[left] if time % beat == 0 else off_beat[left]
        ahead = times[place - 1] if place else None
        if ahead in one[1] and ahead in other[1] and left in (0, 4):
            moved = [voice[1][time] - voice[1][ahead] for voice in (one, other)]
            same = abs(one[1][ahead] - other[1][ahead]) % 7 == left
            if same and (min(moved) > 0 or max(moved) < 0):
                cost += parallels
    return cost


def some_events(chance):
    events = []
    for _ in range(chance.randint(1, 16)):
        length = chance.choice([2, 4, 4, 8, 8, 16, 16, chance.randint(1, 40) * 2])
        if chance.random() < 0.2:
            events.append((0, length))
        else:
            events.append((1, chance.choice([0, 69, chance.randint(25, 40), chance.randint(25, 40)]), length))
    return events


def some_way(chance):
    later = chance.choice([0, 4, 8, 16, 16, 32, chance.randint(0, 200)])
    higher = chance.choice([-7, -4, 0, 4, 7, 11, chance.randint(-28, 28)])
    return (later, higher, chance.randint(0, 1), chance.randint(0, 1), chance.randint(1, 3))


def flat(events):
    return [number for event in events for number in event]


def costs(events, ways, kept=FIRST):
    return ask(prices(*kept), theme(*flat(events)), *[way(*numbers) for numbers in ways])[2:]


class AgainstTheWords(unittest.TestCase):
    def test_costs_of_canons(self):
        chance = random.Random(20)
        for turn in range(300):
            events = some_events(chance)
            ways = [some_way(chance) for _ in range(4)]
            kept = FIRST
            if turn % 2:
                seven = [chance.sample(range(101), 7) for _ in range(2)]
                kept = (*seven, chance.randint(0, 100), chance.choice([1, 3, 4, 8, 16, 512]))
            there = [notes_by(events, (0, 0, 0, 0, 1))]
            expected = []
            for numbers in ways:
                more = notes_by(events, numbers)
                expected.append([len(there), sum(cost_of(one, more, kept) for one in there)])
                there.append(more)
            with self.subTest(events=events, ways=ways, kept=kept):
                self.assertEqual(costs(events, ways, kept), expected)


class AsGood(unittest.TestCase):
    def test_turned_over_as_a_whole(self):
        chance = random.Random(21)
        for _ in range(100):
            events = some_events(chance)
            ways = [some_way(chance) for _ in range(4)]
            turned = [(1, 69 - event[1], event[2]) if event[0] else event for event in events]
            turned_ways = [(later, -higher, *others) for later, higher, *others in ways]
            with self.subTest(events=events, ways=ways):
                self.assertEqual(costs(turned, turned_ways), costs(events, ways))

    def test_later_by_whole_beats(self):
        chance = random.Random(22)
        for _ in range(100):
            events = some_events(chance)[:15]
            ways = [(later, higher, over, 0, 1) for later, higher, over, _, _ in [some_way(chance) for _ in range(4)]]
            with self.subTest(events=events, ways=ways):
                self.assertEqual(costs([(0, 48), *events], ways), costs(events, ways))
