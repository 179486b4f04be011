"""theme: what it takes, answers and refuses (promise 1)."""

import unittest

from calling import FAR, ask, drop, last, outside, theme, voice, way

AS_IT_IS = voice(0, 0, 0, 0, 1)


class TakesThemes(unittest.TestCase):
    def test_how_many_events_and_length(self):
        self.assertEqual(last(theme(1, 28, 16, 1, 30, 16)), [2, 32])
        self.assertEqual(last(theme(1, 28, 15)), [1, 15])
        self.assertEqual(last(theme(0, 3, 1, 5, 4, 0, 5)), [3, 12])

    def test_edges(self):
        for step in (0, 69):
            for length in (1, 512):
                with self.subTest(step=step, length=length):
                    self.assertEqual(
                        ask(theme(1, step, length), AS_IT_IS), [[1, length], [1, 1, step, length]])
        self.assertEqual(last(theme(0, 1)), [1, 1])
        self.assertEqual(last(theme(0, 512)), [1, 512])

    def test_rests_alone_are_a_theme(self):
        self.assertEqual(
            ask(theme(0, 4, 0, 6), voice(0, 5, 1, 1, 2), way(0, 0, 0, 0, 1)),
            [[2, 10], [2, 0, 12, 0, 8], [1, 0]])

    def test_sixteen_events(self):
        notes = [1, 69, 512] * 16
        self.assertEqual(ask(theme(*notes), AS_IT_IS), [[16, 8192], [16, *notes]])
        rests = [0, 1] * 16
        self.assertEqual(ask(theme(*rests), AS_IT_IS), [[16, 16], [16, *rests]])

    def test_a_theme_takes_the_place_of_the_one_before_without_its_voices(self):
        self.assertEqual(
            ask(theme(1, 28, 16), way(0, 1, 0, 0, 1), theme(1, 30, 8), AS_IT_IS, drop(), way(0, 3, 0, 0, 1)),
            [[1, 16], [1, 10], [1, 8], [1, 1, 30, 8], [-3], [1, 6]])


class RefusesThemes(unittest.TestCase):
    def test_none(self):
        self.assertEqual(last(theme()), [-5])

    def test_more_than_sixteen(self):
        self.assertEqual(last(theme(*[1, 28, 16] * 17)), [-5])
        self.assertEqual(last(theme(*[1, 28, 16] * 19)), [-5])
        self.assertEqual(last(theme(*[0, 1] * 17)), [-5])
        self.assertEqual(last(theme(*[0, 1] * 29)), [-5])

    def test_steps_out_of_range(self):
        for step in outside(0, 69):
            with self.subTest(step=step):
                self.assertEqual(last(theme(1, step, 16)), [-1])
                self.assertEqual(last(theme(1, 28, 16, 1, step, 16)), [-1])

    def test_lengths_out_of_range(self):
        for length in outside(1, 512):
            with self.subTest(length=length):
                self.assertEqual(last(theme(1, 28, length)), [-1])
                self.assertEqual(last(theme(0, length)), [-1])
                self.assertEqual(last(theme(0, length, 1, 28, 16)), [-1])

    def test_neither_note_nor_rest(self):
        for kind in (-1, 2, 3, -FAR, FAR):
            with self.subTest(kind=kind):
                self.assertEqual(last(theme(kind)), [-1])
                self.assertEqual(last(theme(kind, 16)), [-1])
                self.assertEqual(last(theme(kind, 16, 16)), [-1])
                self.assertEqual(last(theme(1, 28, 16, kind, 16, 16)), [-1])

    def test_ends_within_an_event(self):
        for events in ([0], [1], [1, 28], [0, 16, 0], [0, 16, 1], [1, 28, 16, 0], [1, 28, 16, 1, 5]):
            with self.subTest(events=events):
                self.assertEqual(last(theme(*events)), [-1])

    def test_no_list_of_events_comes_ahead_of_too_many(self):
        for end in ([0], [1, 28], [1, 70, 16], [0, 0], [2, 2]):
            with self.subTest(end=end):
                self.assertEqual(last(theme(*[1, 28, 16] * 17, *end)), [-1])
                self.assertEqual(last(theme(*[0, 1] * 16, *end)), [-1])
        self.assertEqual(last(theme(*[1, 28, 16] * 19, 1, 28)), [-1])

    def test_a_refused_theme_changes_nothing(self):
        for wrong in (theme(), theme(1, 70, 16), theme(1, 5, 16, 0), theme(*[0, 1] * 17)):
            with self.subTest(wrong=wrong):
                self.assertEqual(
                    ask(theme(1, 28, 16), way(0, 1, 0, 0, 1), wrong, AS_IT_IS, way(0, 2, 0, 0, 1), drop(), drop())[3:],
                    [[1, 1, 28, 16], [2, 10], [1], [0]])

    def test_a_refused_theme_is_no_theme(self):
        for wrong in (theme(), theme(1, 28, 16, 0), theme(*[0, 1] * 17)):
            with self.subTest(wrong=wrong):
                self.assertEqual(last(wrong, AS_IT_IS), [-7])
