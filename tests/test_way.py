"""way and drop: voices come and go, what a voice more costs, and what is refused (promise 2)."""

import unittest

from calling import FIRST_OFF, FIRST_ON, ask, drop, last, prices, theme, voice, way

TWO = theme(1, 28, 16, 1, 30, 16)
ONE = theme(1, 35, 16)


class CostsOfTwo(unittest.TestCase):
    def check(self, events, numbers, cost):
        with self.subTest(events=events, numbers=numbers):
            self.assertEqual(last(theme(*events), way(*numbers)), [1, cost])

    def test_the_interface_example(self):
        self.assertEqual(ask(TWO, way(16, 1, 0, 0, 1), drop()), [[2, 32], [1, 10], [0]])

    def test_gaps_on_and_off_the_beat_either_way(self):
        for higher in range(-28, 29):
            left = abs(higher) % 7
            self.check([1, 35, 16], (0, higher, 0, 0, 1), FIRST_ON[left])
            self.check([0, 3, 1, 35, 16], (0, higher, 0, 0, 1), FIRST_OFF[left])

    def test_both_kinds_of_meeting(self):
        # At 8 theme 28, voice 29: off 3; at 16 theme 30, voice 29: on 10; at 24 30 and 31: off 3.
        self.check([1, 28, 16, 1, 30, 16], (8, 1, 0, 0, 1), 16)

    def test_a_note_is_over_when_its_length_is(self):
        self.check([1, 35, 16], (16, 1, 0, 0, 1), 0)
        self.check([1, 35, 16], (15, 1, 0, 0, 1), 3)
        self.check([1, 35, 16], (17, 1, 0, 0, 1), 0)

    def test_later_at_its_edges(self):
        longest = [1, 35, 512] * 8
        self.check([*longest, 1, 35, 1], (4096, 1, 0, 0, 1), 10)
        self.check([*longest, 1, 36, 1], (4096, 1, 0, 0, 1), 0)
        self.check(longest, (4096, 1, 0, 0, 1), 0)
        self.check(longest, (4095, 1, 0, 0, 1), 3)
        self.check(longest, (0, 1, 0, 0, 1), 80)

    def test_a_held_note_is_met_at_each_beginning(self):
        # Theme 35 on 0 to 4 and 4 to 8; twice as long 36 on 0 to 8 and 8 to 16: meetings at 0 and 4.
        self.check([1, 35, 4, 1, 35, 4], (0, 1, 0, 0, 2), 13)
        # Half as long: 36 on 0 to 2 and 2 to 4: meetings at 0 and 2.
        self.check([1, 35, 4, 1, 35, 4], (0, 1, 0, 0, 3), 13)

    def test_notes_beside_rests(self):
        self.check([0, 16, 1, 35, 16], (16, 1, 0, 0, 1), 0)
        self.check([1, 35, 16, 0, 16], (16, 1, 0, 0, 1), 0)
        self.check([1, 35, 16, 0, 16], (0, 1, 0, 1, 1), 0)
        self.check([1, 35, 16, 0, 16], (0, 1, 0, 1, 2), 0)
        self.check([1, 35, 16, 0, 16, 1, 35, 16], (0, 1, 0, 1, 1), 20)

    def test_turned_and_backwards(self):
        # Upside down 28 26, one higher: 29 27, against 28 30: gaps 1 and 3.
        self.check([1, 28, 16, 1, 30, 16], (0, 1, 1, 0, 1), 16)
        # Backwards 31 29 against 28 30: gaps 3 and 1.
        self.check([1, 28, 16, 1, 30, 16], (0, 1, 0, 1, 1), 16)
        # Both: 27 29 against 28 30: gaps 1 and 1.
        self.check([1, 28, 16, 1, 30, 16], (0, 1, 1, 1, 1), 20)

    def test_below_step_0(self):
        # Upside down and 28 lower: -28 -29 against 0 1: gaps 28 and 30.
        self.check([1, 0, 16, 1, 1, 16], (0, -28, 1, 0, 1), 0)
        # -27 -28 against 0 1: gaps 27 and 29.
        self.check([1, 0, 16, 1, 1, 16], (0, -27, 1, 0, 1), 20)
        # 69 0 is had as 97 166: gaps 28 and 166.
        self.check([1, 69, 16, 1, 0, 16], (0, 28, 1, 0, 1), 0)
        self.check([1, 69, 16, 1, 0, 16], (0, 27, 1, 0, 1), 10)


class Parallels(unittest.TestCase):
    def check(self, events, numbers, cost):
        with self.subTest(events=events, numbers=numbers):
            self.assertEqual(last(prices([1] * 7, [0] * 7, 8, 16), theme(*events), way(*numbers)), [1, cost])

    def test_up_and_down_over_0_and_4(self):
        for higher in range(-28, 29):
            cost = 10 if abs(higher) % 7 in (0, 4) else 2
            self.check([1, 35, 16, 1, 36, 16], (0, higher, 0, 0, 1), cost)
            self.check([1, 36, 16, 1, 35, 16], (0, higher, 0, 0, 1), cost)
            self.check([1, 20, 16, 1, 60, 16], (0, higher, 0, 0, 1), cost)

    def test_off_the_beat_too(self):
        self.check([1, 35, 3, 1, 36, 16], (0, 7, 0, 0, 1), 9)
        self.check([0, 3, 1, 35, 3, 1, 36, 3], (0, 4, 0, 0, 1), 8)

    def test_each_meeting_of_a_row(self):
        self.check([1, 35, 16, 1, 36, 16, 1, 37, 16, 1, 36, 16], (0, 7, 0, 0, 1), 4 + 24)

    def test_the_gap_itself_may_change(self):
        # 35 49 against 35 42: gaps 0 and 7, both up.
        self.check([1, 28, 16, 1, 35, 16, 1, 49, 16], (16, 7, 0, 0, 1), 2 + 8)

    def test_none_where_a_voice_stays(self):
        self.check([1, 35, 16, 1, 35, 16], (0, 7, 0, 0, 1), 2)
        self.check([1, 35, 16, 1, 42, 16], (0, 0, 0, 0, 2), 2)
        self.check([1, 35, 16, 1, 28, 16], (0, 0, 0, 0, 2), 2)
        self.check([1, 35, 16, 1, 42, 16], (0, 0, 0, 0, 3), 1)

    def test_none_in_opposite_directions(self):
        self.check([1, 28, 16, 1, 35, 16], (0, 0, 1, 0, 1), 2)
        self.check([1, 35, 16, 1, 28, 16], (0, 7, 1, 0, 1), 2)
        self.check([1, 28, 16, 1, 32, 16], (0, 4, 1, 0, 1), 2)
        self.check([1, 32, 16, 1, 28, 16], (0, -4, 1, 0, 1), 2)

    def test_none_from_0_to_4_or_back(self):
        # Up: 30 32 against 30 36, 26 32 against 30 32. Down: 30 28 against 30 24, 34 28 against 30 28.
        self.check([1, 24, 16, 1, 30, 16, 1, 32, 16], (16, 6, 0, 0, 1), 2)
        self.check([1, 24, 16, 1, 26, 16, 1, 32, 16], (16, 6, 0, 0, 1), 2)
        self.check([1, 36, 16, 1, 30, 16, 1, 28, 16], (16, -6, 0, 0, 1), 2)
        self.check([1, 36, 16, 1, 34, 16, 1, 28, 16], (16, -6, 0, 0, 1), 2)

    def test_none_over_a_rest(self):
        self.check([1, 35, 16, 0, 16, 1, 36, 16], (0, 7, 0, 0, 1), 2)

    def test_none_over_a_rest_of_one_voice(self):
        # Twice as long: 42 then 43 from 32 on, against 35, the rest from 16 on, 36 from 32 on, 35 from 48 on.
        self.check([1, 35, 16, 0, 16, 1, 36, 16, 1, 35, 16], (0, 7, 0, 1, 2), 3)
        # Half as long it's the other way round: the voice rests from 16 to 32 while the theme holds 35.
        self.check([1, 35, 32, 1, 36, 32, 0, 32, 1, 35, 32], (0, 7, 0, 1, 3), 3)

    def test_none_from_where_one_voice_has_not_begun(self):
        # Voice 43 44 from 16 on, against 36 37: the first has nothing ahead that is met.
        self.check([1, 35, 16, 1, 36, 16, 1, 37, 16], (16, 8, 0, 0, 1), 2 + 8)


class VoicesComeAndGo(unittest.TestCase):
    def test_a_voice_more_costs_against_each_that_is_there(self):
        # Gaps to those ahead: 1; 3, 2; 7, 6, 4; 8, 7, 5, 1.
        self.assertEqual(
            ask(ONE, way(0, 1, 0, 0, 1), way(0, 3, 0, 0, 1), way(0, 7, 0, 0, 1), way(0, 8, 0, 0, 1))[1:],
            [[1, 10], [2, 6], [3, 10], [4, 10 + 0 + 0 + 10]])

    def test_against_voices_where_the_theme_is_over(self):
        self.assertEqual(ask(ONE, way(32, 0, 0, 0, 1), way(40, 1, 0, 0, 1))[1:], [[1, 0], [2, 3]])

    def test_four_other_voices_and_no_more(self):
        four = [way(0, 0, 0, 0, 1)] * 4
        self.assertEqual(
            ask(ONE, *four, way(0, 0, 0, 0, 1), drop(), way(0, 1, 0, 0, 1))[1:],
            [[1, 0], [2, 0], [3, 0], [4, 0], [-5], [3], [4, 40]])

    def test_order_of_refusals(self):
        four = [way(0, 0, 0, 0, 1)] * 4
        odd = theme(1, 28, 15)
        self.assertEqual(last(odd, *four, way(0, 0, 0, 0, 3)), [-5])
        self.assertEqual(last(odd, *four, way(0, 0, 0, 0, 4)), [-1])
        self.assertEqual(last(odd, *four, way(0, 0, 0, 0)), [-1])
        self.assertEqual(last(odd, *four, voice(0, 0, 0, 0, 3)), [-3])
        self.assertEqual(last(odd, *four[:3], way(0, 0, 0, 0, 3)), [-3])

    def test_a_way_refused_by_5_changes_nothing(self):
        four = [way(0, higher, 0, 0, 1) for higher in (0, 2, 4, 7)]
        asked = ask(ONE, *four, way(0, 1, 0, 0, 1), voice(0, 0, 0, 0, 1), drop(), way(0, 6, 0, 0, 1), drop(), drop())
        # Gaps of 6 to 0, 0, 2, 4: twice 10.
        self.assertEqual(asked[5:], [[-5], [1, 1, 35, 16], [3], [4, 20], [3], [2]])

    def test_the_last_one_goes(self):
        self.assertEqual(
            ask(ONE, way(0, 0, 0, 0, 1), way(0, 1, 0, 0, 1), drop(), way(0, 3, 0, 0, 1), drop(), drop())[3:],
            [[1], [2, 12], [1], [0]])

    def test_none_to_drop(self):
        self.assertEqual(ask(drop()), [[-3]])
        self.assertEqual(ask(ONE, drop(), way(0, 1, 0, 0, 1), drop(), drop(), drop())[1:],
                         [[-3], [1, 10], [0], [-3], [-3]])

    def test_a_refused_drop_changes_nothing(self):
        self.assertEqual(ask(drop(), voice(0, 0, 0, 0, 1)), [[-3], [-7]])
        self.assertEqual(ask(ONE, prices([5] * 7), drop(), voice(0, 0, 0, 0, 1), way(0, 0, 0, 0, 1))[2:],
                         [[-3], [1, 1, 35, 16], [1, 5]])
