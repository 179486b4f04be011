"""cost: what the whole canon costs, and what is refused (promise 3)."""

import unittest

from calling import ask, bad, cost, drop, find, in_round, last, prices, theme, voice, way

ONE = theme(1, 35, 16)
TWO = theme(1, 28, 16, 1, 30, 16)


class Costs(unittest.TestCase):
    def test_the_interface_example(self):
        self.assertEqual(last(TWO, way(16, 1, 0, 0, 1), cost()), [10, 2])

    def test_no_other_voice(self):
        self.assertEqual(last(ONE, cost()), [0, 1])
        self.assertEqual(last(prices([100] * 7, [100] * 7, 100, 1), TWO, cost()), [0, 1])
        self.assertEqual(last(theme(0, 4), cost()), [0, 1])

    def test_one_to_four_other_voices(self):
        # Gaps to those ahead: 1; 3, 2; 7, 6, 4; 8, 7, 5, 1.
        ways = [way(0, higher, 0, 0, 1) for higher in (1, 3, 7, 8)]
        for many, expected in ((1, 10), (2, 10 + 6), (3, 16 + 10), (4, 26 + 20)):
            with self.subTest(many=many):
                self.assertEqual(last(ONE, *ways[:many], cost()), [expected, many + 1])

    def test_a_voice_more_costs_what_way_answered(self):
        ways = [way(8, 1, 0, 0, 1), way(4, 3, 1, 0, 2), way(12, -4, 0, 1, 3), way(16, 6, 1, 1, 1)]
        asked = ask(TWO, *[one for more in ways for one in (more, cost())])[1:]
        whole = 0
        for place in range(4):
            whole += asked[2 * place][1]
            self.assertEqual(asked[2 * place + 1], [whole, place + 2])
        self.assertGreater(whole, 0)

    def test_meetings_where_the_theme_is_over(self):
        self.assertEqual(last(ONE, way(32, 0, 0, 0, 1), way(40, 1, 0, 0, 1), cost()), [3, 3])

    def test_parallels_are_in_it(self):
        self.assertEqual(last(theme(1, 35, 16, 1, 36, 16), way(0, 7, 0, 0, 1), way(0, 4, 0, 0, 1), cost()),
                         [8 + 8 + 6 + 6, 3])

    def test_a_dropped_voice_costs_nothing(self):
        self.assertEqual(
            ask(ONE, way(0, 1, 0, 0, 1), way(0, 3, 0, 0, 1), cost(), drop(), cost(), drop(), cost())[3:],
            [[16, 3], [1], [10, 2], [0], [0, 1]])

    def test_a_new_theme_is_without_other_voices(self):
        self.assertEqual(last(ONE, way(0, 1, 0, 0, 1), ONE, cost()), [0, 1])

    def test_prices_told_after_a_way(self):
        self.assertEqual(
            ask(ONE, way(0, 1, 0, 0, 1), prices([0, 77, 0, 0, 0, 0, 0]), cost(), prices([0] * 7), cost())[3::2],
            [[77, 2], [0, 2]])
        self.assertEqual(
            ask(ONE, way(8, 1, 0, 0, 1), cost(), prices(beat=8), cost())[2::2], [[3, 2], [10, 2]])
        self.assertEqual(
            last(theme(1, 35, 16, 1, 36, 16), way(0, 7, 0, 0, 1), prices(parallels=99), cost()), [99, 2])


class Refuses(unittest.TestCase):
    def test_no_theme(self):
        self.assertEqual(ask(cost()), [[-7]])
        self.assertEqual(ask(prices(), way(0, 0, 0, 0, 1), drop(), cost()), [[0], [-7], [-3], [-7]])
        self.assertEqual(ask(theme(1, 70, 16), cost(), theme(), cost())[1::2], [[-7], [-7]])

    def test_a_refused_theme_leaves_the_one_there(self):
        self.assertEqual(last(ONE, way(0, 1, 0, 0, 1), theme(1, 70, 16), cost()), [10, 2])


class ChangesNothing(unittest.TestCase):
    """None of cost, bad, find and round changes the theme, the voices or the prices."""

    def check(self, *asking):
        before = [prices([5, 6, 7, 8, 9, 10, 11]), theme(1, 28, 16, 0, 8, 1, 30, 16), way(8, 1, 1, 0, 2),
                  way(16, -3, 0, 1, 3)]
        after = [cost(), voice(0, 0, 0, 0, 1), bad(0, 1), bad(1, 2), way(0, 2, 0, 0, 1), drop(), drop(), drop(), drop(),
                 way(0, 5, 0, 0, 1)]
        expected = ask(*before, *after)[len(before):]
        for one in asking:
            with self.subTest(one=one):
                self.assertEqual(ask(*before, one, *after)[len(before) + 1:], expected)

    def test_answered(self):
        self.check(cost(), bad(0, 1), bad(2, 1), find(10000, 0, 64, 16, 0, 5), in_round(8, 6))

    def test_refused(self):
        self.check(bad(0, 0), bad(0, 3), bad(-1, 0), find(-1, 0, 0, 1, 0, 0), find(0, 0, 33, 1, 0, 0),
                   in_round(0, 2), in_round(1, 7))

    def test_without_a_theme(self):
        for one in (cost(), bad(0, 1), find(0, 0, 0, 1, 0, 0), in_round(1, 2)):
            with self.subTest(one=one):
                self.assertEqual(
                    ask(prices([7] * 7), one, voice(0, 0, 0, 0, 1), drop(), ONE, cost(), way(0, 0, 0, 0, 1)),
                    [[0], [-7], [-7], [-3], [1, 16], [0, 1], [1, 7]])

    def test_asked_again_the_same_is_answered(self):
        asking = [cost(), bad(1, 0), find(50, 0, 8, 4, -2, 2), in_round(8, 3)]
        asked = ask(theme(1, 28, 16, 1, 29, 8), way(4, 1, 0, 0, 1), *asking, *asking)[2:]
        self.assertEqual(asked[:4], asked[4:])
