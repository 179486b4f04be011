"""Voices laid in time, where two of them meet, and what that costs.

A voice is a list of tuples, one for each event: when it begins, when it is
over, and its step (None for a rest).
"""

from canonways.events import is_note, length_of, step_of

STEPS_OF_A_SCALE = 7
PARALLEL_GAPS = (0, 4)


def laid(events, later):
    """The voice that has the events, one behind another, from the time later on."""
    voice = []
    begins = later
    for event in events:
        over = begins + length_of(event)
        step = step_of(event) if is_note(event) else None
        voice.append((begins, over, step))
        begins = over
    return voice


def beginnings(one, other):
    """The times at which an event of one of both voices begins, each once, in order."""
    return sorted(set([event[0] for event in one + other]))


def steps_on(voice, times):
    """For each of the times, which are in order, the step of the note that is on then, or None."""
    steps = []
    place = 0
    for time in times:
        while place < len(voice) and voice[place][1] <= time:
            place += 1
        steps.append(step_at(voice, place, time))
    return steps


def step_at(voice, place, time):
    if place == len(voice) or time < voice[place][0]:
        return None
    return voice[place][2]


def what_is_left(steps):
    """What's left by 7 of how many steps the two are apart, either way."""
    return abs(steps[0] - steps[1]) % STEPS_OF_A_SCALE


def are_parallel(before, now):
    """True if both voices have gone the same way from one meeting to the next, over gaps that must not."""
    left = what_is_left(now)
    if left not in PARALLEL_GAPS or what_is_left(before) != left:
        return False
    both_up = now[0] > before[0] and now[1] > before[1]
    both_down = now[0] < before[0] and now[1] < before[1]
    return both_up or both_down


def meeting_costs(one, other, prices):
    """Of each meeting of two voices, in order: its time, what it costs."""
    costs = []
    times = beginnings(one, other)
    before = None
    for time, step, other_step in zip(times, steps_on(one, times), steps_on(other, times)):
        if step is None or other_step is None:
            # A beginning that is no meeting parts those on both sides of it: no parallels over it.
            before = None
            continue
        now = (step, other_step)
        cost = prices.price_of_gap(what_is_left(now), time)
        if before is not None and are_parallel(before, now):
            cost += prices.parallels
        costs.append((time, cost))
        before = now
    return costs


def cost_of_two(one, other, prices):
    return sum([meeting[1] for meeting in meeting_costs(one, other, prices)])


def cost_against_all(voice, others, prices):
    return sum([cost_of_two(other, voice, prices) for other in others])


def cost_of_all(voices, prices):
    """What all two of the voices cost."""
    return sum([cost_against_all(voice, voices[:place], prices) for place, voice in enumerate(voices)])
