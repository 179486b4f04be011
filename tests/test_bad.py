"""bad: at which meetings of two voices something costs, and what is refused (promise 3)."""

import unittest

from calling import FAR, ask, bad, drop, last, prices, theme, way

ONE = theme(1, 35, 16)
TWO = theme(1, 28, 16, 1, 30, 16)


class TellsMeetings(unittest.TestCase):
    def check(self, calls, one, other, expected):
        with self.subTest(one=one, other=other):
            self.assertEqual(last(*calls, bad(one, other)), expected)
            self.assertEqual(last(*calls, bad(other, one)), expected)

    def test_the_interface_example(self):
        self.check([TWO, way(16, 1, 0, 0, 1)], 0, 1, [1, 16, 10])

    def test_only_those_that_cost(self):
        # Voice 28 till 32, then 29 till 64, against 28 29 30 31: gaps 0, 1, 1, 2.
        events = theme(1, 28, 16, 1, 29, 16, 1, 30, 16, 1, 31, 16)
        self.check([events, way(0, 0, 0, 0, 2)], 0, 1, [2, 16, 10, 32, 10])

    def test_none_that_cost(self):
        self.check([ONE, way(0, 2, 0, 0, 1)], 0, 1, [0])
        self.check([prices([0] * 7, [0] * 7, 0), TWO, way(8, 1, 0, 0, 1)], 0, 1, [0])

    def test_none_at_all(self):
        self.check([ONE, way(16, 1, 0, 0, 1)], 0, 1, [0])
        self.check([theme(0, 8, 0, 8), way(0, 1, 0, 0, 1)], 0, 1, [0])

    def test_on_and_off_the_beat(self):
        self.check([TWO, way(8, 1, 0, 0, 1)], 0, 1, [3, 8, 3, 16, 10, 24, 3])

    def test_parallels_alone(self):
        self.check([theme(1, 35, 16, 1, 36, 16, 1, 34, 8), way(0, 7, 0, 0, 1)], 0, 1, [2, 16, 8, 32, 8])

    def test_parallels_and_a_gap(self):
        calls = [prices([5, 1, 2, 3, 4, 6, 7]), theme(1, 35, 16, 1, 36, 16), way(0, 7, 0, 0, 1)]
        self.check(calls, 0, 1, [2, 0, 5, 16, 13])

    def test_free_meetings_dear_ones_and_parallels_at_once(self):
        # From 16 on 22 24 27 31 against 22 24 26 29: gaps 0, 0 (both gone up), 1, 2.
        self.check([theme(1, 20, 16, 1, 22, 16, 1, 24, 16, 1, 27, 16, 1, 31, 16), way(16, 2, 0, 0, 1)], 0, 1,
                   [2, 32, 8, 48, 10])
        # From 16 on 22 20 17 13 against 22 20 18 15: the same, gone down.
        self.check([theme(1, 24, 16, 1, 22, 16, 1, 20, 16, 1, 17, 16, 1, 13, 16), way(16, -2, 0, 0, 1)], 0, 1,
                   [2, 32, 8, 48, 10])

    def test_two_other_voices(self):
        calls = [ONE, way(0, 1, 0, 0, 1), way(8, 3, 0, 0, 1), way(8, 6, 0, 0, 1)]
        self.check(calls, 0, 1, [1, 0, 10])
        self.check(calls, 0, 2, [1, 8, 2])
        self.check(calls, 1, 2, [0])
        self.check(calls, 0, 3, [1, 8, 3])
        self.check(calls, 1, 3, [0])
        self.check(calls, 2, 3, [1, 8, 2])

    def test_prices_told_after_a_way(self):
        calls = [TWO, way(8, 1, 0, 0, 1), prices([1] * 7, [9] * 7, 0, 8)]
        self.check(calls, 0, 1, [3, 8, 1, 16, 1, 24, 1])
        self.check([*calls, prices([1] * 7, [9] * 7, 0, 512)], 0, 1, [3, 8, 9, 16, 9, 24, 9])

    def test_a_price_of_1_is_told(self):
        self.check([prices([1] * 7), ONE, way(0, 2, 0, 0, 1)], 0, 1, [1, 0, 1])

    def test_all_meetings_of_two_long_voices(self):
        calls = [prices([100] * 7, [100] * 7), theme(*[1, 35, 2] * 16), way(1, 0, 0, 0, 1)]
        times = range(1, 32)
        self.check(calls, 0, 1, [31, *[number for time in times for number in (time, 100)]])


class Refuses(unittest.TestCase):
    def check(self, calls, one, other, expected):
        with self.subTest(one=one, other=other):
            self.assertEqual(last(*calls, bad(one, other)), [expected])
            self.assertEqual(last(*calls, bad(other, one)), [expected])

    def test_no_theme(self):
        self.check([], 0, 1, -7)

    def test_no_theme_comes_ahead_of_wrong_voices(self):
        for one, other in ((0, 0), (-1, 0), (0, 5), (FAR, -FAR)):
            self.check([], one, other, -7)

    def test_no_such_voice(self):
        for many in range(5):
            calls = [ONE, *[way(0, 0, 0, 0, 1)] * many]
            for wrong in (-1, -2, -5, many + 1, 6, FAR, -FAR):
                self.check(calls, 0, wrong, -1)
                self.check(calls, many, wrong, -1)
                self.check(calls, wrong, wrong, -1)

    def test_the_last_voice_is_there(self):
        for many in range(1, 5):
            calls = [ONE, *[way(0, 2, 0, 0, 1)] * many]
            self.assertEqual(ask(*calls, bad(0, many), bad(many, 0))[-2:], [[0], [0]])

    def test_the_same_twice(self):
        calls = [ONE, *[way(0, 1, 0, 0, 1)] * 4]
        for one in range(5):
            self.check(calls, one, one, -1)
        self.check([ONE], 0, 0, -1)

    def test_a_dropped_voice_is_not_there(self):
        self.check([ONE, way(0, 1, 0, 0, 1), drop()], 0, 1, -1)
        self.check([ONE, way(0, 1, 0, 0, 1), ONE], 0, 1, -1)
