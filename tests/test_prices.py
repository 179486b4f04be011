"""prices: what they do to costs, and what is refused (promise 1)."""

import unittest

from calling import FIRST_OFF, FIRST_ON, ask, last, outside, prices, some_prices, theme, voice, way

ON = [11, 12, 13, 14, 15, 16, 17]
OFF = [21, 22, 23, 24, 25, 26, 27]
NUMBERS = [*ON, *OFF, 50, 16]
ON_THE_BEAT = theme(1, 35, 16)
OFF_THE_BEAT = theme(0, 3, 1, 35, 16)
PARALLELS = theme(1, 35, 16, 1, 36, 16)


def with_one(place, number):
    return [*NUMBERS[:place], number, *NUMBERS[place + 1:]]


class TakesPrices(unittest.TestCase):
    def test_answers_0(self):
        self.assertEqual(last(prices()), [0])
        self.assertEqual(last(theme(1, 28, 16), way(0, 0, 0, 0, 1), prices(ON, OFF, 1, 2)), [0])

    def test_first_prices(self):
        for gap in range(7):
            with self.subTest(gap=gap):
                self.assertEqual(last(ON_THE_BEAT, way(0, gap, 0, 0, 1)), [1, FIRST_ON[gap]])
                self.assertEqual(last(OFF_THE_BEAT, way(0, gap, 0, 0, 1)), [1, FIRST_OFF[gap]])
        self.assertEqual(last(PARALLELS, way(0, 7, 0, 0, 1)), [1, 8])

    def test_the_first_beat_is_16(self):
        for later, cost in ((15, 3), (16, 10), (17, 3), (32, 10), (40, 3), (48, 10)):
            with self.subTest(later=later):
                self.assertEqual(last(theme(1, 28, 64), way(later, 1, 0, 0, 1)), [1, cost])

    def test_each_price_is_used_for_its_own_gap(self):
        for gap in range(7):
            with self.subTest(gap=gap):
                self.assertEqual(last(prices(ON, OFF), ON_THE_BEAT, way(0, gap, 0, 0, 1)), [1, ON[gap]])
                self.assertEqual(last(prices(ON, OFF), OFF_THE_BEAT, way(0, gap, 0, 0, 1)), [1, OFF[gap]])

    def test_price_of_parallels(self):
        for price in (0, 1, 100):
            with self.subTest(price=price):
                self.assertEqual(last(prices(parallels=price), PARALLELS, way(0, 4, 0, 0, 1)), [1, price])

    def test_edges_of_prices(self):
        for price in (0, 100):
            seven = [price] * 7
            self.assertEqual(
                ask(prices(seven, seven, price, 16), PARALLELS, way(0, 7, 0, 0, 1)),
                [[0], [2, 32], [1, 3 * price]])

    def test_edges_of_the_beat(self):
        events = theme(1, 28, 512, 1, 28, 512)
        for beat, later, cost in ((1, 7, 36), (512, 0, 24), (512, 511, 56), (512, 512, 12)):
            with self.subTest(beat=beat, later=later):
                self.assertEqual(last(prices(ON, OFF, 50, beat), events, way(later, 1, 0, 0, 1)), [1, cost])

    def test_hold_for_what_comes_then(self):
        self.assertEqual(
            ask(theme(1, 28, 16), way(0, 1, 0, 0, 1), prices(ON, OFF), way(0, 1, 0, 0, 1), prices(), way(0, 1, 0, 0, 1)),
            [[1, 16], [1, 10], [0], [2, 12 + 11], [0], [3, 10]])

    def test_leave_theme_and_voices(self):
        self.assertEqual(
            ask(theme(1, 28, 16), way(0, 0, 0, 0, 1), prices(ON, OFF), voice(0, 0, 0, 0, 1), way(0, 2, 0, 0, 1))[3:],
            [[1, 1, 28, 16], [2, 26]])

    def test_a_new_theme_leaves_prices(self):
        self.assertEqual(last(theme(1, 28, 16), prices(ON, OFF), theme(1, 5, 16), way(0, 3, 0, 0, 1)), [1, 14])


class RefusesPrices(unittest.TestCase):
    def test_numbers_out_of_range(self):
        for place in range(15):
            for number in outside(0, 100):
                with self.subTest(place=place, number=number):
                    self.assertEqual(last(some_prices(*with_one(place, number))), [-1])

    def test_beats_out_of_range(self):
        for beat in outside(1, 512):
            with self.subTest(beat=beat):
                self.assertEqual(last(some_prices(*with_one(15, beat))), [-1])

    def test_each_number_at_its_edges_is_taken(self):
        for place in range(15):
            self.assertEqual(last(some_prices(*with_one(place, 0))), [0])
            self.assertEqual(last(some_prices(*with_one(place, 100))), [0])
        self.assertEqual(last(some_prices(*with_one(15, 1))), [0])
        self.assertEqual(last(some_prices(*with_one(15, 512))), [0])

    def test_not_as_many_as_told(self):
        for many in (0, 1, 7, 14, 15, 17, 18, 32):
            with self.subTest(many=many):
                self.assertEqual(last(some_prices(*[1] * many)), [-1])

    def test_refused_prices_change_nothing(self):
        wrong = [some_prices(*with_one(place, -1)) for place in range(16)]
        wrong += [some_prices(*NUMBERS[:15]), some_prices(*NUMBERS, 1)]
        for one in wrong:
            with self.subTest(wrong=one):
                self.assertEqual(
                    ask(theme(1, 28, 16), way(0, 1, 0, 0, 1), one, voice(0, 0, 0, 0, 1), way(0, 3, 0, 0, 1))[3:],
                    [[1, 1, 28, 16], [2, 6]])
                self.assertEqual(
                    last(prices(OFF, ON), one, OFF_THE_BEAT, way(0, 3, 0, 0, 1)), [1, 14])
                self.assertEqual(last(one, PARALLELS, way(0, 7, 0, 0, 1)), [1, 8])
