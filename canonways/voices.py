"""The calls on one canon, one behind another, and their answers."""

from canonways.canon import Canon

THEME = 1
PRICES = 2
WAY = 3
DROP = 4
VOICE = 5
COST = 6
BAD = 7
FIND = 8


def answers(calls):
    """For each call, in order: how many numbers are answered; these."""
    canon = Canon()
    given = []
    place = 0
    while place < len(calls):
        first = place + 2
        behind = first + calls[place + 1]
        answer = answer_of(canon, calls[place], calls[first:behind])
        given.append(len(answer))
        given.extend(answer)
        # Behind its numbers each call has one more: how many lists it has, always 0.
        place = behind + 1
    return given


def answer_of(canon, call, numbers):
    if call == THEME:
        return canon.take_theme(numbers)
    if call == PRICES:
        return canon.take_prices(numbers)
    if call == WAY:
        return canon.add_way(numbers)
    if call == DROP:
        return canon.drop_last()
    if call == VOICE:
        return canon.show_voice(numbers)
    if call == COST:
        return canon.show_cost()
    if call == BAD:
        return canon.show_bad(numbers)
    if call == FIND:
        return canon.find_ways(numbers)
    # No other calls than the nine are handed in, so what is left is round.
    return canon.show_round(numbers)
