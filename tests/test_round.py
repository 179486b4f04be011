"""round: what voices cost that have the theme as it is, one after another, and what is refused (promise 3)."""

import unittest

from calling import FAR, ask, cost, in_round, last, outside, prices, theme, way

ONE = theme(1, 35, 16)
TWO = theme(1, 28, 16, 1, 30, 16)
SCALE = theme(*[number for step in range(28, 36) for number in (1, step, 16)])


class Costs(unittest.TestCase):
    def test_the_interface_example(self):
        self.assertEqual(last(TWO, in_round(16, 2)), [0])

    def test_two_to_six_voices(self):
        # A scale of eight: 16 later the gap is 1 at each of 7 meetings, 32 later 2, 48 later 3 at each of 5,
        # 64 later 4 at each of 4 (3 of them parallel), 80 later 5.
        of_two = {1: 70, 2: 0, 3: 30, 4: 24, 5: 0}
        for many in range(2, 7):
            expected = sum((many - apart) * of_two[apart] for apart in range(1, many))
            with self.subTest(many=many):
                self.assertEqual(last(SCALE, in_round(16, many)), [expected])

    def test_as_the_same_canon_by_ways(self):
        for late in (1, 3, 8, 16, 20, 40):
            ways = [way(late * place, 0, 0, 0, 1) for place in range(1, 5)]
            for many in range(2, 6):
                asked = ask(SCALE, *ways[:many - 1], cost(), in_round(late, many))
                with self.subTest(late=late, many=many):
                    self.assertEqual([*asked[-1], many], asked[-2])

    def test_times_are_from_0_on(self):
        # 24 later each: voices 0 and 1 meet at 24 and at 32, voices 1 and 2 at 48 and at 56.
        events = theme(1, 28, 24, 1, 29, 24)
        self.assertEqual(last(events, in_round(24, 2)), [3])
        self.assertEqual(last(events, in_round(24, 3)), [3 + 10])
        self.assertEqual(last(events, in_round(24, 6)), [3 + 10 + 3 + 10 + 3])

    def test_so_late_that_no_two_meet(self):
        dear = prices([100] * 7, [100] * 7, 100, 1)
        for many in range(2, 7):
            for late in (32, 33, 4096):
                with self.subTest(late=late, many=many):
                    self.assertEqual(last(dear, TWO, in_round(late, many)), [0])
        self.assertEqual(last(dear, TWO, in_round(31, 6)), [500])

    def test_edges_of_late(self):
        dear = prices([100] * 7, [100] * 7, 0, 1)
        longest = [1, 35, 512] * 8
        self.assertEqual(last(dear, theme(1, 35, 2), in_round(1, 6)), [500])
        self.assertEqual(last(dear, theme(1, 35, 1), in_round(1, 6)), [0])
        self.assertEqual(last(dear, theme(*longest), in_round(4096, 6)), [0])
        self.assertEqual(last(dear, theme(*longest, 1, 35, 1), in_round(4096, 6)), [500])
        self.assertEqual(last(dear, theme(*longest * 2), in_round(4096, 2)), [800])

    def test_rests_alone(self):
        self.assertEqual(last(theme(0, 4), in_round(1, 6)), [0])

    def test_other_voices_are_not_in_it(self):
        ways = [way(0, 1, 0, 0, 1), way(16, 1, 1, 1, 2), way(0, 3, 0, 0, 1), way(0, 6, 0, 0, 3)]
        for many in range(5):
            self.assertEqual(last(SCALE, *ways[:many], in_round(16, 3)), [140])

    def test_prices_told_after_the_theme_and_a_way(self):
        calls = [SCALE, way(0, 0, 0, 0, 1), prices([0, 1, 0, 0, 0, 0, 0])]
        self.assertEqual(last(*calls, in_round(16, 2)), [7])
        self.assertEqual(last(*calls, prices([0] * 7, [2] * 7, 0, 512), in_round(16, 2)), [14])
        self.assertEqual(last(*calls, prices([0] * 7, [0] * 7, 9), in_round(64, 2)), [27])


class Refuses(unittest.TestCase):
    def check(self, calls, late, many, expected):
        with self.subTest(late=late, many=many):
            self.assertEqual(last(*calls, in_round(late, many)), [expected])

    def test_no_theme(self):
        self.check([], 1, 2, -7)
        self.check([theme()], 4096, 6, -7)

    def test_no_theme_comes_ahead_of_wrong_numbers(self):
        self.check([], 0, 2, -7)
        self.check([], 1, 7, -7)
        self.check([], FAR, -FAR, -7)

    def test_late_out_of_range(self):
        for late in outside(1, 4096):
            self.check([ONE], late, 2, -1)

    def test_many_out_of_range(self):
        for many in [*outside(2, 6), 0, -1]:
            self.check([ONE], 16, many, -1)

    def test_both_out_of_range(self):
        self.check([ONE], 0, 1, -1)
        self.check([ONE], FAR, FAR, -1)
        self.check([ONE], -FAR, -FAR, -1)

    def test_edges_are_taken(self):
        for late in (1, 4096):
            for many in (2, 6):
                self.check([theme(1, 35, 1)], late, many, 0)
