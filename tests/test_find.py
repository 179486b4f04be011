"""find: which ways cost no more, in which order they are told, and what is refused (promise 3)."""

import unittest

from calling import FAR, ask, find, last, outside, prices, theme, voice, way

ONE = theme(1, 35, 16)
TWO = theme(1, 28, 16, 1, 30, 16)
ODD = theme(1, 28, 15)
FOUR = [way(0, higher, 0, 0, 1) for higher in (2, 4, 7, 9)]
SHAPES = [(over, back, lengths) for over in (0, 1) for back in (0, 1) for lengths in (1, 2, 3)]
NOT_HALVED = [shape for shape in SHAPES if shape[2] != 3]
NUMBERS = [10000, 0, 16, 16, 0, 1]
RANGES = [(0, 10000), (0, 4096), (0, 4096), (1, 4096), (-28, 28), (-28, 28)]


def tried(laters, highers):
    return [(later, higher, *shape) for later in laters for higher in highers for shape in SHAPES]


def cost_against_each(first, there, numbers):
    """What a way costs against the theme and against each way that is there; None if it can't be had."""
    answer = last(*first, way(*numbers))
    if len(answer) == 1:
        return None
    return answer[1] + sum(last(*first, one, way(*numbers))[1] - answer[1] for one in there)


def found_one_by_one(first, there, most, ways):
    """What find is to answer, with each way laid in by itself."""
    costs = [(cost_against_each(first, there, numbers), numbers) for numbers in ways]
    costs = [pair for pair in costs if pair[0] is not None and pair[0] <= most]
    costs.sort(key=lambda pair: pair[0])
    return [len(costs), *[number for price, numbers in costs[:10] for number in (price, *numbers)]]


def told(answer):
    """The ways told behind how many there are: what each costs, its five numbers."""
    return [tuple(answer[place:place + 6]) for place in range(1, len(answer), 6)]


class Finds(unittest.TestCase):
    def check(self, events, there, numbers, ways):
        with self.subTest(numbers=numbers):
            self.assertEqual(
                last(events, *there, find(*numbers)), found_one_by_one([events], there, numbers[0], ways))

    def test_the_interface_example(self):
        first_ten = [number for shape in SHAPES[:10] for number in (0, 16, 0, *shape)]
        self.assertEqual(last(TWO, find(0, 16, 16, 1, 0, 1)), [12, *first_ten])

    def test_order_in_which_ways_are_tried(self):
        # Rests alone cost nothing, so all are as dear and are told as they were tried.
        rests = theme(0, 16, 0, 8)
        ways = tried((4, 7, 10), (-1, 0))
        for first in range(0, 72, 12):
            later, higher = ways[first][:2]
            answer = last(rests, find(0, later, later, 1, higher, higher))
            self.assertEqual(told(answer), [(0, *one) for one in ways[first:first + 10]])
        self.assertEqual(last(rests, find(0, 4, 10, 3, -1, 0)), [72, *[n for one in ways[:10] for n in (0, *one)]])

    def test_later_comes_ahead_of_higher(self):
        # At 14 each meets the theme off the beat; from 15 on nothing is met.
        answer = last(prices(off=[5] * 7), ODD, find(0, 14, 17, 1, 0, 1))
        self.assertEqual(answer[0], 3 * 2 * 8)
        self.assertEqual([one[1:3] for one in told(answer)], [(15, 0)] * 8 + [(15, 1)] * 2)

    def test_no_other_voice(self):
        for most in (0, 5, 10, 16, 10000):
            self.check(TWO, [], (most, 0, 16, 8, -2, 2), tried((0, 8, 16), range(-2, 3)))

    def test_four_other_voices(self):
        events = theme(1, 28, 16, 1, 30, 16, 0, 8, 1, 29, 8)
        for most in (0, 20, 60, 10000):
            self.check(events, FOUR, (most, 0, 16, 8, -2, 2), tried((0, 8, 16), range(-2, 3)))

    def test_each_count_of_other_voices(self):
        # At 0 gaps of 1 to 0, 2, 4, 7, 9: 10; 10; 6; 10; 10 more each.
        wanted = 0
        for many, more in enumerate((10, 10, 6, 10, 10)):
            wanted += more
            answer = last(ONE, *FOUR[:many], find(10000, 0, 0, 1, 1, 1))
            self.assertEqual(answer[0], 12)
            self.assertEqual(told(answer), [(wanted, 0, 1, *shape) for shape in SHAPES[:10]])

    def test_just_most_and_just_more(self):
        calls = [ONE, way(0, 2, 0, 0, 1)]
        for most, many in ((19, 0), (20, 12), (21, 12), (10000, 12)):
            with self.subTest(most=most):
                self.assertEqual(last(*calls, find(most, 0, 0, 1, 1, 1))[0], many)
        self.assertEqual(last(*calls, find(19, 0, 0, 1, 1, 1)), [0])

    def test_most_0(self):
        self.assertEqual(last(ONE, find(0, 0, 0, 1, 2, 2))[0], 12)
        self.assertEqual(last(ONE, find(0, 0, 0, 1, 1, 1)), [0])
        self.assertEqual(last(prices([1] * 7), ONE, find(0, 0, 0, 1, 2, 2)), [0])

    def test_most_10000(self):
        # As long as the theme, 5.5 events later: 10 meetings on the beat and 11 off it, with each of five voices.
        # Four of these are 100 each; the last is 10 * on + 11 * off, 1600 or 1601. Other lengths have fewer meetings.
        for on, off, many, dearest in ((61, 90, 12, 10000), (60, 91, 8, 7608)):
            there = [prices([100, on, *[100] * 5], [100, off, *[100] * 5], 0, 64), theme(*[1, 35, 64] * 16),
                     *[way(0, 0, 0, 0, 1)] * 3, way(0, 1, 0, 0, 1)]
            answer = last(*there, find(10000, 352, 352, 1, 0, 0))
            with self.subTest(on=on, off=off):
                self.assertEqual(answer[0], many)
                self.assertEqual(told(answer)[-1][0], dearest)

    def test_cheaper_ones_first(self):
        answer = last(ONE, find(10000, 0, 0, 1, 0, 6))
        # Nothing for higher 0, 2, 4, 5, in the order in which they were tried: the ten are of 0.
        self.assertEqual(answer[0], 84)
        self.assertEqual(told(answer), [(0, 0, 0, *shape) for shape in SHAPES[:10]])
        # 10 for 1, 6 for 3, 10 for 6: those of 3 come first, then those of 1.
        dear = prices([50, 10, 50, 6, 50, 50, 10])
        answer = last(dear, ODD, find(10, 0, 0, 1, 1, 6))
        self.assertEqual(answer[0], 3 * 8)
        self.assertEqual(
            told(answer),
            [(6, 0, 3, *shape) for shape in NOT_HALVED] + [(10, 0, 1, *shape) for shape in NOT_HALVED[:2]])

    def test_a_cheap_one_tried_last_is_told_first(self):
        calls = [prices([9, 8, 7, 6, 5, 4, 3]), ONE]
        answer = last(*calls, find(10000, 0, 0, 1, 0, 6))
        self.assertEqual(told(answer), [(3, 0, 6, *shape) for shape in SHAPES[:10]])

    def test_as_dear_ones_as_they_were_tried(self):
        # 6 for higher -3, 3 and 4, of 8 ways each: those of -3 are told, then those of 3.
        calls = [ODD, prices([50, 50, 50, 6, 6, 50, 50])]
        answer = last(*calls, find(6, 0, 0, 1, -3, 4))
        self.assertEqual(answer[0], 3 * 8)
        self.assertEqual(
            told(answer),
            [(6, 0, -3, *shape) for shape in NOT_HALVED] + [(6, 0, 3, *shape) for shape in NOT_HALVED[:2]])

    def test_fewer_than_ten_and_more(self):
        self.assertEqual(len(told(last(ODD, find(0, 15, 15, 1, 0, 0)))), 8)
        self.assertEqual(len(told(last(ODD, find(0, 15, 16, 1, 0, 0)))), 10)
        for most in range(0, 30):
            answer = last(TWO, find(most, 0, 0, 1, 1, 1))
            self.assertEqual(len(told(answer)), min(10, answer[0]))

    def test_nine_ten_and_eleven(self):
        for most, many in ((9, 9), (10, 10), (12, 11)):
            answer = last(TWO, find(most, 0, 0, 1, 5, 5))
            self.assertEqual((answer[0], len(told(answer))), (many, min(10, many)))
            self.check(TWO, [], (most, 0, 0, 1, 5, 5), tried([0], [5]))

    def test_a_theme_that_cannot_be_halved(self):
        answer = last(ODD, find(10000, 0, 0, 1, 0, 0))
        self.assertEqual(answer[0], 8)
        self.assertEqual([one[5] for one in told(answer)], [1, 2] * 4)
        self.check(theme(1, 28, 16, 0, 7, 1, 30, 16), FOUR[:1], (20, 0, 8, 4, 0, 3), tried((0, 4, 8), range(4)))

    def test_a_theme_of_rests_alone(self):
        answer = last(theme(0, 4), find(0, 0, 0, 1, 0, 0))
        self.assertEqual(answer[0], 12)
        self.assertEqual(told(answer), [(0, 0, 0, *shape) for shape in SHAPES[:10]])
        self.assertEqual(last(theme(0, 5), find(0, 0, 0, 1, 0, 0))[0], 8)

    def test_prices_told_after_a_way(self):
        calls = [ONE, way(0, 2, 0, 0, 1)]
        self.assertEqual(last(*calls, prices([30] * 7), find(59, 0, 0, 1, 0, 0)), [0])
        self.assertEqual(last(*calls, prices([30] * 7), find(60, 0, 0, 1, 0, 0))[:3], [12, 60, 0])

    def test_what_is_found_can_be_laid_in(self):
        calls = [theme(1, 28, 16, 1, 30, 8, 1, 29, 8), way(8, 2, 0, 0, 1)]
        for one in told(last(*calls, find(30, 0, 32, 8, -3, 3))):
            self.assertEqual(last(*calls, way(*one[1:])), [2, one[0]])


class Edges(unittest.TestCase):
    def check(self, numbers, ways):
        with self.subTest(numbers=numbers):
            for events in (TWO, theme(*[1, 35, 512] * 9)):
                self.assertEqual(last(events, find(*numbers)), found_one_by_one([events], [], numbers[0], ways))

    def test_from_and_to(self):
        self.check((10000, 0, 0, 1, 1, 1), tried([0], [1]))
        self.check((10000, 4096, 4096, 1, 1, 1), tried([4096], [1]))
        self.check((10000, 0, 4096, 4096, 1, 1), tried([0, 4096], [1]))
        self.check((10000, 7, 7, 1, 1, 1), tried([7], [1]))
        self.check((10000, 7, 7, 4096, 1, 1), tried([7], [1]))

    def test_step(self):
        self.check((10000, 2, 5, 1, 1, 1), tried([2, 3, 4, 5], [1]))
        self.check((10000, 0, 4095, 4096, 1, 1), tried([0], [1]))
        self.check((10000, 0, 10, 5, 1, 1), tried([0, 5, 10], [1]))

    def test_a_step_that_goes_over_to(self):
        self.check((10000, 0, 9, 5, 1, 1), tried([0, 5], [1]))
        self.check((10000, 3, 7, 5, 1, 1), tried([3], [1]))
        self.check((10000, 4090, 4096, 4, 1, 1), tried([4090, 4094], [1]))

    def test_lowest_and_highest(self):
        self.check((10000, 0, 0, 1, -28, -28), tried([0], [-28]))
        self.check((10000, 0, 0, 1, 28, 28), tried([0], [28]))
        self.check((10000, 0, 0, 1, -28, 0), tried([0], range(-28, 1)))
        self.check((10000, 0, 0, 1, 0, 28), tried([0], range(29)))

    def test_just_396_ways(self):
        # 33 times 12, in each of the ways to have 33.
        for numbers in ((0, 0, 32, 1, 0, 0), (0, 0, 0, 1, -4, 28), (0, 0, 10, 1, -1, 1), (0, 0, 2, 1, -5, 5),
                        (0, 0, 4096, 128, 0, 0), (0, 0, 4095, 127, 0, 0)):
            with self.subTest(numbers=numbers):
                self.assertEqual(last(theme(0, 2), find(*numbers))[0], 396)

    def test_just_408_ways(self):
        for numbers in ((0, 0, 33, 1, 0, 0), (0, 0, 0, 1, -5, 28), (0, 0, 16, 1, 0, 1), (0, 0, 1, 1, -8, 8),
                        (0, 0, 4096, 124, 0, 0)):
            with self.subTest(numbers=numbers):
                self.assertEqual(last(theme(0, 2), find(*numbers)), [-2])

    def test_ways_that_cannot_be_had_count_as_tried(self):
        self.assertEqual(last(ODD, find(0, 0, 33, 1, 0, 0)), [-2])
        self.assertEqual(last(theme(0, 1), find(0, 0, 32, 1, 0, 0))[0], 264)


class Refuses(unittest.TestCase):
    def check(self, calls, numbers, expected):
        with self.subTest(numbers=numbers):
            self.assertEqual(last(*calls, find(*numbers)), [expected])

    def with_one(self, place, number):
        return [*NUMBERS[:place], number, *NUMBERS[place + 1:]]

    def test_no_theme(self):
        self.check([], NUMBERS, -7)
        self.check([theme(1, 70, 1)], NUMBERS, -7)

    def test_no_theme_comes_ahead_of_wrong_numbers_and_too_many_ways(self):
        for place, (low, high) in enumerate(RANGES):
            for number in outside(low, high):
                self.check([], self.with_one(place, number), -7)
        self.check([], [0, 5, 4, 1, 0, 0], -7)
        self.check([], [0, 0, 4096, 1, -28, 28], -7)

    def test_numbers_out_of_range(self):
        for place, (low, high) in enumerate(RANGES):
            for number in outside(low, high):
                self.check([TWO], self.with_one(place, number), -1)

    def test_steps_of_0_and_below(self):
        for step in (0, -1, -16, -4096, -FAR):
            self.check([TWO], [0, 0, 16, step, 0, 0], -1)
            self.check([TWO], [0, 16, 16, step, 0, 0], -1)
            self.check([TWO], [0, 16, 0, step, 0, 0], -1)

    def test_to_below_from(self):
        self.check([TWO], [0, 16, 15, 1, 0, 0], -1)
        self.check([TWO], [0, 4096, 0, 1, 0, 0], -1)
        self.check([TWO], [0, 1, 0, 4096, 0, 0], -1)

    def test_highest_below_lowest(self):
        self.check([TWO], [0, 0, 0, 1, 1, 0], -1)
        self.check([TWO], [0, 0, 0, 1, -27, -28], -1)
        self.check([TWO], [0, 0, 0, 1, 28, -28], -1)

    def test_all_wrong_at_once(self):
        self.check([TWO], [FAR] * 6, -1)
        self.check([TWO], [-FAR] * 6, -1)

    def test_ranges_too_wide_to_be_gone_through(self):
        self.check([TWO], [0, 0, FAR, 1, 0, 0], -1)
        self.check([TWO], [0, -FAR, FAR, 1, -FAR, FAR], -1)
        self.check([TWO], [0, 0, 0, 1, -FAR, FAR], -1)
        self.check([TWO], [0, 0, 4097, 1, 0, 0], -1)

    def test_too_many_ways(self):
        self.check([TWO], [0, 0, 4096, 1, -28, 28], -2)
        self.check([TWO], [10000, 0, 4096, 1, 0, 0], -2)
        self.check([TWO], [0, 0, 0, 1, -28, 28], -2)
        self.check([TWO, *FOUR], [0, 0, 33, 1, 0, 0], -2)

    def test_wrong_numbers_come_ahead_of_too_many_ways(self):
        self.check([TWO], [-1, 0, 4096, 1, -28, 28], -1)
        self.check([TWO], [10001, 0, 33, 1, 0, 0], -1)
        self.check([TWO], [0, 0, 4096, 1, -29, 28], -1)
        self.check([TWO], [0, 0, 4096, 1, 28, -28], -1)
        self.check([TWO], [0, 0, 4096, 0, -28, 28], -1)
        self.check([TWO], [0, 1, 0, 1, -28, 28], -1)

    def test_refused_twice(self):
        self.assertEqual(
            ask(ONE, find(0, 0, 33, 1, 0, 0), find(-1, 0, 0, 1, 0, 0), voice(0, 0, 0, 0, 1))[1:],
            [[-2], [-1], [1, 1, 35, 16]])
