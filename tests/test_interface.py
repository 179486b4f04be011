"""answers: the list of calls and of answers, and that nothing is kept or changed."""

import unittest

from calling import ask, drop, prices, theme, voice, way
from canonways.voices import answers


class Interface(unittest.TestCase):
    def test_the_example_as_far_as_it_is_of_these_calls(self):
        calls = [
            *theme(1, 28, 16, 1, 30, 16), *way(16, 1, 0, 0, 1), *drop(), *voice(0, 2, 1, 0, 2), *voice(0, 0, 0, 1, 3),
            *way(0, 0, 1, 1), *theme(1, 28, 15), *voice(0, 0, 0, 0, 3)]
        self.assertEqual(
            answers(calls),
            [2, 2, 32, 2, 1, 10, 1, 0, 7, 2, 1, 30, 32, 1, 28, 32, 7, 2, 1, 30, 8, 1, 28, 8, 1, -1, 2, 1, 15, 1, -3])

    def test_the_calls_number_by_number(self):
        self.assertEqual(
            answers([2, 16, 5, 0, 0, 0, 0, 0, 0, 0, 0, 0, 0, 0, 0, 0, 0, 1, 0, 1, 2, 0, 8, 0, 1, 3, 1, 4, 2, 0,
                     3, 5, 0, 0, 0, 0, 1, 0, 4, 0, 0, 5, 5, 0, -5, 0, 0, 1, 0, 1, 0, 0]),
            [1, 0, 2, 1, 8, 2, 1, 2, 2, 1, 5, 1, 0, 4, 1, 1, -1, 2, 1, -5])

    def test_whole_numbers_are_given_back(self):
        given = answers([*theme(1, 28, 16), *way(0, 0, 1, 1, 2), *voice(0, 0, 1, 1, 3), *prices(), *drop(), *drop()])
        self.assertIs(type(given), list)
        self.assertEqual({type(number) for number in given}, {int})

    def test_what_is_handed_in_is_not_changed(self):
        calls = [
            *theme(1, 28, 16, 0, 4, 1, 30, 16), *prices([1] * 7), *way(16, 1, 1, 1, 2), *voice(0, 0, 0, 1, 3),
            *theme(1, 70, 1), *drop(), *drop(), *way(0, 0, 0, 0, 9)]
        before = list(calls)
        answers(calls)
        self.assertEqual(calls, before)

    def test_nothing_is_kept_from_one_list_to_the_next(self):
        ask(theme(1, 28, 16), prices([9] * 7), way(0, 0, 0, 0, 1))
        self.assertEqual(
            ask(voice(0, 0, 0, 0, 1), way(0, 0, 0, 0, 1), drop(), theme(1, 28, 16), way(0, 3, 0, 0, 1)),
            [[-7], [-7], [-3], [1, 16], [1, 6]])

    def test_the_same_list_twice_has_the_same_answers(self):
        calls = [*way(0, 1, 0, 0, 1), *theme(1, 28, 16), *way(0, 1, 0, 0, 1), *prices([2] * 7), *way(0, 1, 0, 0, 1)]
        self.assertEqual(answers(calls), answers(calls))

    def test_sixty_calls(self):
        calls = [theme(*[1, 69, 512] * 16), *[voice(4096, 28, 1, 1, 2)] * 59]
        self.assertEqual(ask(*calls), [[16, 8192], *[[16, *[1, 97, 1024] * 16]] * 59])
