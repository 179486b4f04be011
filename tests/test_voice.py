"""voice: how the theme is had in each way, and what is refused (promise 2)."""

import unittest

from calling import FAR, ask, drop, last, outside, theme, voice, way

TWO = theme(1, 28, 16, 1, 30, 16)
FOUR = theme(0, 2, 1, 28, 4, 1, 33, 6, 1, 21, 8)
RANGES = [(0, 4096), (-28, 28), (0, 1), (0, 1), (1, 3)]


class HasTheTheme(unittest.TestCase):
    def check(self, events, numbers, expected):
        with self.subTest(numbers=numbers):
            self.assertEqual(last(events, voice(*numbers)), expected)

    def test_the_interface_example(self):
        self.check(TWO, (0, 2, 1, 0, 2), [2, 1, 30, 32, 1, 28, 32])
        self.check(TWO, (0, 0, 0, 1, 3), [2, 1, 30, 8, 1, 28, 8])

    def test_as_it_is(self):
        self.check(FOUR, (0, 0, 0, 0, 1), [4, 0, 2, 1, 28, 4, 1, 33, 6, 1, 21, 8])

    def test_later_is_not_among_the_events(self):
        for later in (1, 16, 4096):
            self.check(FOUR, (later, 0, 0, 0, 1), [4, 0, 2, 1, 28, 4, 1, 33, 6, 1, 21, 8])

    def test_higher(self):
        self.check(FOUR, (0, 5, 0, 0, 1), [4, 0, 2, 1, 33, 4, 1, 38, 6, 1, 26, 8])
        self.check(FOUR, (0, -5, 0, 0, 1), [4, 0, 2, 1, 23, 4, 1, 28, 6, 1, 16, 8])

    def test_upside_down_about_the_first_note_behind_a_rest(self):
        self.check(FOUR, (0, 0, 1, 0, 1), [4, 0, 2, 1, 28, 4, 1, 23, 6, 1, 35, 8])

    def test_backwards(self):
        self.check(FOUR, (0, 0, 0, 1, 1), [4, 1, 21, 8, 1, 33, 6, 1, 28, 4, 0, 2])

    def test_upside_down_and_backwards_is_about_the_theme_s_own_first_note(self):
        self.check(FOUR, (0, 0, 1, 1, 1), [4, 1, 35, 8, 1, 23, 6, 1, 28, 4, 0, 2])

    def test_twice_as_long_rests_too(self):
        self.check(FOUR, (0, 0, 0, 0, 2), [4, 0, 4, 1, 28, 8, 1, 33, 12, 1, 21, 16])

    def test_half_as_long_rests_too(self):
        self.check(FOUR, (0, 0, 0, 0, 3), [4, 0, 1, 1, 28, 2, 1, 33, 3, 1, 21, 4])

    def test_all_at_once(self):
        self.check(FOUR, (7, 3, 1, 1, 2), [4, 1, 38, 16, 1, 26, 12, 1, 31, 8, 0, 4])
        self.check(FOUR, (7, -3, 1, 1, 3), [4, 1, 32, 4, 1, 20, 3, 1, 25, 2, 0, 1])

    def test_below_0_and_above_69(self):
        low_first = theme(1, 0, 16, 1, 69, 16)
        self.check(low_first, (0, -28, 0, 0, 1), [2, 1, -28, 16, 1, 41, 16])
        self.check(low_first, (0, 28, 0, 0, 1), [2, 1, 28, 16, 1, 97, 16])
        self.check(low_first, (0, -28, 1, 0, 1), [2, 1, -28, 16, 1, -97, 16])
        self.check(theme(1, 69, 16, 1, 0, 16), (0, 28, 1, 0, 1), [2, 1, 97, 16, 1, 166, 16])

    def test_edges_of_lengths(self):
        self.check(theme(1, 5, 512, 0, 512), (0, 0, 0, 0, 2), [2, 1, 5, 1024, 0, 1024])
        self.check(theme(1, 5, 512, 0, 2), (0, 0, 0, 0, 3), [2, 1, 5, 256, 0, 1])
        self.check(theme(1, 5, 1), (0, 0, 0, 0, 2), [1, 1, 5, 2])

    def test_sixteen_events(self):
        events = [number for step in range(16) for number in (1, step, 2)]
        there = [number for step in range(16) for number in (1, 4 - step, 1)]
        self.check(theme(*events), (4096, 4, 1, 0, 3), [16, *there])

    def test_each_number_at_its_edges(self):
        for place, (low, high) in enumerate(RANGES):
            for number in (low, high):
                numbers = [0, 0, 0, 0, 1]
                numbers[place] = number
                with self.subTest(numbers=numbers):
                    self.assertEqual(last(TWO, voice(*numbers))[0], 2)

    def test_is_no_voice_more(self):
        self.assertEqual(ask(TWO, voice(0, 0, 0, 0, 1), drop(), way(0, 2, 0, 0, 1))[2:], [[-3], [1, 0]])

    def test_asked_while_there_are_four_other_voices(self):
        four = [way(64, 0, 0, 0, 1)] * 4
        self.assertEqual(last(TWO, *four, voice(0, 1, 0, 0, 1)), [2, 1, 29, 16, 1, 31, 16])


class Refuses(unittest.TestCase):
    """What way and voice refuse alike."""

    def check(self, calls, numbers, expected):
        for kind in (voice, way):
            with self.subTest(kind=kind.__name__, numbers=numbers):
                self.assertEqual(last(*calls, kind(*numbers)), [expected])

    def test_numbers_out_of_range(self):
        for place, (low, high) in enumerate(RANGES):
            for number in outside(low, high):
                numbers = [0, 0, 0, 0, 1]
                numbers[place] = number
                self.check([TWO], numbers, -1)

    def test_any_other_count(self):
        for many in (0, 1, 2, 3, 4, 6, 7, 10, 12):
            self.check([TWO], [1] * many, -1)

    def test_no_theme(self):
        self.check([], (0, 0, 0, 0, 1), -7)
        self.check([], (4096, -28, 1, 1, 3), -7)

    def test_odd_lengths_halved(self):
        self.check([theme(1, 28, 15)], (0, 0, 0, 0, 3), -3)
        self.check([theme(1, 28, 16, 0, 1)], (0, 0, 0, 0, 3), -3)
        self.check([theme(0, 511, 1, 28, 16)], (16, 1, 1, 1, 3), -3)
        self.check([theme(1, 28, 3, 1, 28, 3)], (0, 0, 0, 0, 3), -3)

    def test_odd_lengths_else_are_had(self):
        for lengths, long in ((1, 15), (2, 30)):
            self.assertEqual(last(theme(1, 28, 15), voice(0, 0, 0, 0, lengths)), [1, 1, 28, long])

    def test_wrong_numbers_come_ahead_of_no_theme(self):
        self.check([], (0, 0, 0, 0, 4), -1)
        self.check([], (-FAR, 0, 0, 0, 1), -1)
        self.check([], (0, 0, 0, 1), -1)

    def test_wrong_numbers_come_ahead_of_halved(self):
        self.check([theme(1, 28, 15)], (4097, 0, 0, 0, 3), -1)
        self.check([theme(1, 28, 15)], (0, 0, 0, 0, 3, 0), -1)

    def test_refused_ones_change_nothing(self):
        before = [theme(1, 28, 15), way(0, 1, 0, 0, 1)]
        for kind in (voice, way):
            for wrong in (kind(0, 0, 0, 0, 3), kind(0, 29, 0, 0, 1), kind(0, 0, 0, 0)):
                with self.subTest(wrong=wrong):
                    self.assertEqual(
                        ask(*before, wrong, voice(0, 0, 0, 0, 1), way(0, 3, 0, 0, 1), drop(), drop(), drop())[3:],
                        [[1, 1, 28, 15], [2, 6], [1], [0], [-3]])
