"""Calls as they stand in the list, and their answers one by one."""

from canonways.voices import answers

FAR = 2 ** 53
FIRST_ON = [0, 10, 0, 6, 0, 0, 10]
FIRST_OFF = [0, 3, 0, 2, 0, 0, 3]


def call(number, numbers):
    return [number, len(numbers), *numbers, 0]


def theme(*events):
    return call(1, events)


def prices(on=FIRST_ON, off=FIRST_OFF, parallels=8, beat=16):
    return call(2, [*on, *off, parallels, beat])


def some_prices(*numbers):
    return call(2, numbers)


def way(*numbers):
    return call(3, numbers)


def drop():
    return call(4, [])


def voice(*numbers):
    return call(5, numbers)


def cost():
    return call(6, [])


def bad(one, other):
    return call(7, [one, other])


def find(most, start, to, step, lowest, highest):
    return call(8, [most, start, to, step, lowest, highest])


def in_round(late, many):
    return call(9, [late, many])


def ask(*calls):
    """The answers to the calls, each a list of its own."""
    given = answers([number for one in calls for number in one])
    split = []
    place = 0
    while place < len(given):
        behind = place + 1 + given[place]
        if given[place] < 1 or behind > len(given):
            raise AssertionError(f"answers end within one: {given}")
        split.append(given[place + 1:behind])
        place = behind
    if len(split) != len(calls):
        raise AssertionError(f"{len(calls)} calls, {len(split)} answers")
    return split


def last(*calls):
    return ask(*calls)[-1]


def outside(low, high):
    """Numbers just outside a range, and as far outside as may be handed in."""
    return [low - 1, high + 1, -FAR, FAR]
