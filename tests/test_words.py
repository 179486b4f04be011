"""Canons at large, against costs reckoned tick by tick straight from the document's words."""

import itertools
import random
import unittest

from calling import FIRST_OFF, FIRST_ON, ask, bad, cost, find, in_round, last, prices, theme, way

FIRST = (FIRST_ON, FIRST_OFF, 8, 16)


def notes_by(events, numbers):
    """When a voice's events begin, and for each time of a note its step."""
    later, higher, upside_down, backwards, lengths = numbers
    steps = [event[1] for event in events if event[0] == 1]
    begins = []
    on = {}
    time = later
    for event in (events[::-1] if backwards else events):
        length = {1: event[-1], 2: event[-1] * 2, 3: event[-1] // 2}[lengths]
        begins.append(time)
        if event[0] == 1:
            step = 2 * steps[0] - event[1] if upside_down else event[1]
            for tick in range(time, time + length):
                on[tick] = step + higher
        time += length
    return begins, on


def bad_of(one, other, kept):
    """Of each meeting at which something costs its time and what it costs."""
    on_beat, off_beat, parallels, beat = kept
    times = sorted({*one[0], *other[0]})
    dear = []
    for place, time in enumerate(times):
        if time not in one[1] or time not in other[1]:
            continue
        left = abs(one[1][time] - other[1][time]) % 7
        price = on_beat[left] if time % beat == 0 else off_beat[left]
        ahead = times[place - 1] if place else None
        if ahead in one[1] and ahead in other[1] and left in (0, 4):
            moved = [voice[1][time] - voice[1][ahead] for voice in (one, other)]
            same = abs(one[1][ahead] - other[1][ahead]) % 7 == left
            if same and (min(moved) > 0 or max(moved) < 0):
                price += parallels
        if price:
            dear.append((time, price))
    return dear


def cost_of(one, other, kept):
    return sum(price for time, price in bad_of(one, other, kept))


def cost_of_canon(voices, kept):
    return sum(cost_of(one, other, kept) for one, other in itertools.combinations(voices, 2))


def ways_found(events, there, kept, numbers):
    """All ways that cost no more, as dear ones in the order in which they are tried."""
    most, start, to, step, lowest, highest = numbers
    found = []
    for one in itertools.product(range(start, to + 1, step), range(lowest, highest + 1), (0, 1), (0, 1), (1, 2, 3)):
        if one[4] == 3 and any(event[-1] % 2 for event in events):
            continue
        price = sum(cost_of(voice, notes_by(events, one), kept) for voice in there)
        if price <= most:
            found.append((price, *one))
    return sorted(found, key=lambda told: told[0])


def some_events(chance):
    events = []
    for _ in range(chance.randint(1, 16)):
        length = chance.choice([2, 4, 4, 8, 8, 16, 16, chance.randint(1, 40) * 2])
        if chance.random() < 0.2:
            events.append((0, length))
        else:
            events.append((1, chance.choice([0, 69, chance.randint(25, 40), chance.randint(25, 40)]), length))
    return events


def some_way(chance):
    later = chance.choice([0, 4, 8, 16, 16, 32, chance.randint(0, 200)])
    higher = chance.choice([-7, -4, 0, 4, 7, 11, chance.randint(-28, 28)])
    return (later, higher, chance.randint(0, 1), chance.randint(0, 1), chance.randint(1, 3))


def some_prices(chance):
    seven = [chance.sample(range(101), 7) for _ in range(2)]
    return (*seven, chance.randint(0, 100), chance.choice([1, 3, 4, 8, 16, 512]))


def flat(events):
    return [number for event in events for number in event]


def costs(events, ways, kept=FIRST):
    return ask(prices(*kept), theme(*flat(events)), *[way(*numbers) for numbers in ways], cost())[2:]


class AgainstTheWords(unittest.TestCase):
    def test_costs_of_canons(self):
        chance = random.Random(20)
        for turn in range(300):
            events = some_events(chance)
            ways = [some_way(chance) for _ in range(4)]
            kept = some_prices(chance) if turn % 2 else FIRST
            there = [notes_by(events, (0, 0, 0, 0, 1))]
            expected = []
            for numbers in ways:
                more = notes_by(events, numbers)
                expected.append([len(there), sum(cost_of(one, more, kept) for one in there)])
                there.append(more)
            expected.append([cost_of_canon(there, kept), 5])
            with self.subTest(events=events, ways=ways, kept=kept):
                self.assertEqual(costs(events, ways, kept), expected)

    def test_cost_bad_and_round(self):
        chance = random.Random(23)
        for turn in range(120):
            events = some_events(chance)
            ways = [some_way(chance) for _ in range(turn % 5)]
            kept = some_prices(chance) if turn % 2 else FIRST
            late, many = chance.choice([1, 8, 16, chance.randint(1, 100)]), chance.randint(2, 6)
            voices = [notes_by(events, numbers) for numbers in [(0, 0, 0, 0, 1), *ways]]
            pairs = list(itertools.permutations(range(len(voices)), 2))
            told = [bad_of(voices[one], voices[other], kept) for one, other in pairs]
            after = [notes_by(events, (late * place, 0, 0, 0, 1)) for place in range(many)]
            # Prices are told last: those that hold when asked are the ones that count.
            asked = ask(theme(*flat(events)), *[way(*numbers) for numbers in ways], prices(*kept), cost(),
                        in_round(late, many), *[bad(*pair) for pair in pairs])[len(ways) + 2:]
            with self.subTest(events=events, ways=ways, kept=kept, late=late, many=many):
                self.assertEqual(asked[0], [cost_of_canon(voices, kept), len(voices)])
                self.assertEqual(asked[1], [cost_of_canon(after, kept)])
                self.assertEqual(asked[2:], [[len(dear), *flat(dear)] for dear in told])

    def test_find(self):
        chance = random.Random(24)
        for turn in range(40):
            events = some_events(chance)[:6]
            if turn % 4 == 0:
                events.append((1, 30, 7))
            ways = [numbers for numbers in [some_way(chance) for _ in range(turn % 5)] if turn % 4 or numbers[4] != 3]
            kept = some_prices(chance) if turn % 2 else FIRST
            start, lowest = chance.randint(0, 40), chance.randint(-28, 26)
            numbers = [10000, start, start + chance.randint(0, 9), chance.randint(4, 8), lowest, lowest + 2]
            there = [notes_by(events, one) for one in [(0, 0, 0, 0, 1), *ways]]
            found = ways_found(events, there, kept, numbers)
            calls = [theme(*flat(events)), *[way(*one) for one in ways], prices(*kept)]
            # Most is as dear as one of those found, one below it, or as high as may be.
            dear = chance.choice(found)[0]
            for most in (dear, max(0, dear - 1), 10000):
                left = [one for one in found if one[0] <= most]
                with self.subTest(events=events, ways=ways, kept=kept, numbers=numbers, most=most):
                    self.assertEqual(last(*calls, find(most, *numbers[1:])), [len(left), *flat(left[:10])])


class AsGood(unittest.TestCase):
    def test_turned_over_as_a_whole(self):
        chance = random.Random(21)
        for _ in range(100):
            events = some_events(chance)
            ways = [some_way(chance) for _ in range(4)]
            turned = [(1, 69 - event[1], event[2]) if event[0] else event for event in events]
            turned_ways = [(later, -higher, *others) for later, higher, *others in ways]
            with self.subTest(events=events, ways=ways):
                self.assertEqual(costs(turned, turned_ways), costs(events, ways))

    def test_later_by_whole_beats(self):
        chance = random.Random(22)
        for _ in range(100):
            events = some_events(chance)[:15]
            ways = [(later, higher, over, 0, 1) for later, higher, over, _, _ in [some_way(chance) for _ in range(4)]]
            with self.subTest(events=events, ways=ways):
                self.assertEqual(costs([(0, 48), *events], ways), costs(events, ways))

    def test_find_turned_over_as_a_whole(self):
        chance = random.Random(25)
        for _ in range(20):
            events = some_events(chance)
            turned = [(1, 69 - event[1], event[2]) if event[0] else event for event in events]
            for most in (0, 20, 60):
                one = last(theme(*flat(events)), find(most, 8, 16, 8, -4, 7))
                other = last(theme(*flat(turned)), find(most, 8, 16, 8, -7, 4))
                with self.subTest(events=events, most=most):
                    self.assertEqual(other[0], one[0])
                    self.assertEqual(other[1::6], one[1::6])

    def test_bad_later_by_whole_beats(self):
        chance = random.Random(26)
        for _ in range(50):
            events = some_events(chance)[:15]
            numbers = (*some_way(chance)[:3], 0, 1)
            one = last(theme(*flat(events)), way(*numbers), bad(0, 1))
            other = last(theme(0, 48, *flat(events)), way(*numbers), bad(0, 1))
            with self.subTest(events=events, numbers=numbers):
                self.assertEqual(other, [one[0], *[n + 48 * (place % 2 == 0) for place, n in enumerate(one[1:])]])
