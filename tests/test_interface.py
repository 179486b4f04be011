"""answers: the list of calls and of answers, and that nothing is kept or changed."""

import time
import unittest

from calling import FAR, ask, bad, call, cost, drop, find, in_round, prices, theme, voice, way
from canonways.voices import answers


class Interface(unittest.TestCase):
    def test_the_example(self):
        calls = [
            cost(), theme(1, 28, 16, 1, 30, 16), in_round(16, 2), way(16, 1, 0, 0, 1), bad(0, 1), cost(), drop(),
            voice(0, 2, 1, 0, 2), voice(0, 0, 0, 1, 3), way(0, 0, 1, 1), find(0, 16, 16, 1, 0, 1), theme(1, 28, 15),
            voice(0, 0, 0, 0, 3)]
        ten = """0 16 0 0 0 1 0 16 0 0 0 2 0 16 0 0 0 3 0 16 0 0 1 1 0 16 0 0 1 2 0 16 0 0 1 3 0 16 0 1 0 1
            0 16 0 1 0 2 0 16 0 1 0 3 0 16 0 1 1 1"""
        self.assertEqual(
            ask(*calls),
            [[-7], [2, 32], [0], [1, 10], [1, 16, 10], [10, 2], [0], [2, 1, 30, 32, 1, 28, 32],
             [2, 1, 30, 8, 1, 28, 8], [-1], [12, *[int(number) for number in ten.split()]], [1, 15], [-3]])

    def test_the_example_number_by_number(self):
        self.assertEqual(
            answers([6, 0, 0, 1, 6, 1, 28, 16, 1, 30, 16, 0, 9, 2, 16, 2, 0, 3, 5, 16, 1, 0, 0, 1, 0, 7, 2, 0, 1, 0,
                     6, 0, 0, 4, 0, 0, 5, 5, 0, 2, 1, 0, 2, 0, 5, 5, 0, 0, 0, 1, 3, 0, 3, 4, 0, 0, 1, 1, 0,
                     8, 6, 0, 16, 16, 1, 0, 1, 0, 1, 3, 1, 28, 15, 0, 5, 5, 0, 0, 0, 0, 3, 0]),
            [1, -7, 2, 2, 32, 1, 0, 2, 1, 10, 3, 1, 16, 10, 2, 10, 2, 1, 0, 7, 2, 1, 30, 32, 1, 28, 32,
             7, 2, 1, 30, 8, 1, 28, 8, 1, -1, 61, 12,
             0, 16, 0, 0, 0, 1, 0, 16, 0, 0, 0, 2, 0, 16, 0, 0, 0, 3, 0, 16, 0, 0, 1, 1, 0, 16, 0, 0, 1, 2,
             0, 16, 0, 0, 1, 3, 0, 16, 0, 1, 0, 1, 0, 16, 0, 1, 0, 2, 0, 16, 0, 1, 0, 3, 0, 16, 0, 1, 1, 1,
             2, 1, 15, 1, -3])

    def test_the_calls_number_by_number(self):
        self.assertEqual(
            answers([2, 16, 5, 0, 0, 0, 0, 0, 0, 0, 0, 0, 0, 0, 0, 0, 0, 1, 0, 1, 2, 0, 8, 0, 1, 3, 1, 4, 2, 0,
                     3, 5, 0, 0, 0, 0, 1, 0, 4, 0, 0, 5, 5, 0, -5, 0, 0, 1, 0, 1, 0, 0]),
            [1, 0, 2, 1, 8, 2, 1, 2, 2, 1, 5, 1, 0, 4, 1, 1, -1, 2, 1, -5])

    def test_whole_numbers_are_given_back(self):
        given = answers([*theme(1, 28, 16), *way(0, 0, 1, 1, 2), *voice(0, 0, 1, 1, 3), *prices(), *cost(),
                         *bad(0, 1), *bad(1, 1), *find(50, 0, 8, 4, -1, 1), *in_round(4, 6), *drop(), *drop()])
        self.assertIs(type(given), list)
        self.assertEqual({type(number) for number in given}, {int})

    def test_what_is_handed_in_is_not_changed(self):
        calls = [
            *theme(1, 28, 16, 0, 4, 1, 30, 16), *prices([1] * 7), *way(16, 1, 1, 1, 2), *voice(0, 0, 0, 1, 3),
            *theme(1, 70, 1), *cost(), *bad(0, 1), *bad(0, 0), *find(50, 0, 8, 4, -1, 1), *find(0, 0, 33, 1, 0, 0),
            *in_round(8, 6), *in_round(0, 6), *drop(), *drop(), *way(0, 0, 0, 0, 9)]
        before = list(calls)
        answers(calls)
        self.assertEqual(calls, before)

    def test_nothing_is_kept_from_one_list_to_the_next(self):
        ask(theme(1, 28, 16), prices([9] * 7), way(0, 0, 0, 0, 1))
        self.assertEqual(
            ask(voice(0, 0, 0, 0, 1), way(0, 0, 0, 0, 1), drop(), theme(1, 28, 16), way(0, 3, 0, 0, 1)),
            [[-7], [-7], [-3], [1, 16], [1, 6]])
        self.assertEqual(
            ask(cost(), bad(0, 1), find(0, 0, 0, 1, 0, 0), in_round(1, 2), theme(1, 28, 16), cost()),
            [[-7], [-7], [-7], [-7], [1, 16], [0, 1]])

    def test_the_same_list_twice_has_the_same_answers(self):
        calls = [*way(0, 1, 0, 0, 1), *theme(1, 28, 16), *way(0, 1, 0, 0, 1), *prices([2] * 7), *way(0, 1, 0, 0, 1)]
        self.assertEqual(answers(calls), answers(calls))

    def test_sixty_calls(self):
        calls = [theme(*[1, 69, 512] * 16), *[voice(4096, 28, 1, 1, 2)] * 59]
        self.assertEqual(ask(*calls), [[16, 8192], *[[16, *[1, 97, 1024] * 16]] * 59])

    def test_sixty_calls_with_the_longest_finds(self):
        events = [number for place in range(16) for number in (1, 20 + 5 * place % 17, 510 - 2 * place)]
        ways = [way(3, 1, 0, 0, 2), way(5, 4, 1, 0, 2), way(7, 2, 0, 1, 2), way(9, 6, 1, 1, 2)]
        asking = [cost(), bad(1, 2), bad(0, 4), in_round(11, 6)] * 13
        calls = [theme(*events), *ways, find(10000, 0, 4095, 127, 3, 3), find(10000, 1, 11, 1, -1, 1), *asking, drop()]
        self.assertEqual(len(calls), 60)
        began = time.monotonic()
        asked = ask(*calls)
        self.assertLess(time.monotonic() - began, 5)
        self.assertEqual([asked[5][0], asked[6][0]], [396, 396])
        self.assertEqual(asked[7:11] * 13, asked[7:59])

    def test_no_call_raises(self):
        numbers = [-FAR, -1, 0, 1, 2, 5, FAR]
        for first in ([], theme(1, 28, 15), [*theme(1, 28, 16), *way(0, 0, 0, 0, 1)]):
            for number in numbers:
                for many, place in ((0, 4), (0, 6), (2, 7), (6, 8), (2, 9), (16, 2), *[(n, 3) for n in range(13)],
                                    *[(n, 5) for n in range(13)], *[(n, 1) for n in range(60)]):
                    given = answers([*first, *call(place, [number] * many)])
                    self.assertIs(type(given), list)
                    self.assertGreaterEqual(len(given), 2)
