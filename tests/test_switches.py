"""Switches by themselves and boxes of them [2, 3, 10, 17, 18]."""

import unittest

from lugtrain.errors import NoBox, NoPlace, NoSwitch
from lugtrain.returns import standing_of
from lugtrain.switches import Box, Switch
from reckoning import (
    NO_TOPS, SIXTY, all_rows, is_places, is_whole, mixed, pairs_of, plain_answer, plain_lit, plain_on, refusal_of,
    weighed,
)


def gone(box, row):
    for place in row:
        box.turn(place)
    return box


class Switches(unittest.TestCase):
    def test_at_first_it_is_off(self):
        self.assertIs(Switch(0, 1).on(), False)
        self.assertIs(Switch(5, 9).on(), False)

    def test_on_as_soon_as_the_handle_is_at_high_or_above(self):
        for place, expected in ((4, False), (5, True), (6, True), (99, True)):
            switch = Switch(2, 5)
            switch.turn(place)
            self.assertIs(switch.on(), expected, place)

    def test_off_as_soon_as_the_handle_is_at_low_or_below(self):
        for place, expected in ((3, True), (2, False), (1, False), (-99, False)):
            switch = Switch(2, 5)
            switch.turn(5)
            switch.turn(place)
            self.assertIs(switch.on(), expected, place)

    def test_as_before_between(self):
        switch = Switch(2, 5)
        told = []
        for place in (3, 4, 5, 4, 3, 4, 2, 3, 4, 6, 3, 0, 4):
            switch.turn(place)
            told.append(switch.on())
        self.assertEqual(told, [False] * 2 + [True] * 4 + [False] * 3 + [True] * 2 + [False] * 2)

    def test_high_just_above_low(self):
        switch = Switch(0, 1)
        for place in (1, 0, 1, 1, 0, 0):
            switch.turn(place)
            self.assertIs(switch.on(), place == 1)

    def test_any_place_far_off(self):
        switch = Switch(3, 20)
        for place, expected in ((SIXTY, True), (-SIXTY, False), (17, False), (20, True), (4, True), (-1, False)):
            switch.turn(place)
            self.assertIs(switch.on(), expected, place)
        great = Switch(SIXTY - 1, SIXTY)
        great.turn(SIXTY)
        self.assertIs(great.on(), True)
        great.turn(SIXTY - 1)
        self.assertIs(great.on(), False)

    def test_turn_tells_nothing(self):
        switch = Switch(2, 5)
        for place in (0, 5, 3, 2, 99, -99):
            self.assertIsNone(switch.turn(place))

    def test_all_small_ones_by_the_words(self):
        for low, high in pairs_of(4):
            for row in all_rows(range(-1, 6), 3):
                switch = Switch(low, high)
                for place in row:
                    switch.turn(place)
                self.assertIs(switch.on(), plain_on(low, high, row), (low, high, row))

    def test_no_switch(self):
        for low, high in ((-1, 1), (-1, -1), (-2, -1), (-SIXTY, SIXTY), (0, 0), (1, 0), (5, 5), (5, 4), (5, -5),
                          (0, -1)):
            self.assertIs(refusal_of(Switch, low, high), NoSwitch, (low, high))
        for low, high in ((0, 1), (0, 17), (16, 17), (0, SIXTY), (SIXTY - 1, SIXTY)):
            self.assertIsNone(refusal_of(Switch, low, high), (low, high))

    def test_each_goes_by_itself(self):
        one, other = Switch(0, 1), Switch(0, 1)
        one.turn(1)
        self.assertIs(one.on(), True)
        self.assertIs(other.on(), False)


class Boxes(unittest.TestCase):
    def test_at_first(self):
        box = Box(9, [(0, 1, 5), (2, 9, 7)])
        self.assertEqual((box.place(), box.answer(), box.lit()), (0, 0, []))

    def test_without_switches(self):
        box = Box(3, [])
        for place in (0, 3, 1):
            self.assertEqual(box.turn(place), 0)
            self.assertEqual((box.place(), box.answer(), box.lit()), (place, 0, []))

    def test_it_answers_with_the_weights_of_those_that_are_on(self):
        box = Box(6, [(0, 2, 10), (1, 4, 100), (3, 6, -7)])
        for place, answer, lit in (
            (1, 0, []), (2, 10, [0]), (3, 10, [0]), (4, 110, [0, 1]), (6, 103, [0, 1, 2]), (4, 103, [0, 1, 2]),
            (3, 110, [0, 1]), (5, 110, [0, 1]), (1, 10, [0]), (3, 10, [0]), (0, 0, []), (6, 103, [0, 1, 2]),
        ):
            self.assertEqual(box.turn(place), answer, place)
            self.assertEqual(box.answer(), answer)
            self.assertEqual(box.lit(), lit)
            self.assertEqual(box.place(), place)

    def test_weights_below_0_of_0_and_of_sixty_figures(self):
        box = Box(2, [(0, 1, -SIXTY), (0, 2, 0), (1, 2, 2 * SIXTY)])
        self.assertEqual(box.turn(1), -SIXTY)
        self.assertEqual(box.turn(2), SIXTY)
        self.assertEqual(box.lit(), [0, 1, 2])
        self.assertEqual(box.turn(1), -SIXTY)
        self.assertEqual(box.lit(), [0, 1])

    def test_the_same_switch_twice(self):
        box = Box(2, [(0, 2, 3), (0, 2, 4), (0, 2, 3)])
        self.assertEqual(box.turn(2), 10)
        self.assertEqual(box.lit(), [0, 1, 2])

    def test_tops_1_and_16(self):
        least = Box(1, [(0, 1, 3)])
        self.assertEqual([least.turn(place) for place in (1, 1, 0, 1)], [3, 3, 0, 3])
        great = Box(16, weighed(pairs_of(16)))
        self.assertEqual(great.turn(16), 2 ** 136 - 1)
        self.assertEqual(great.lit(), list(range(136)))
        self.assertEqual(great.turn(0), 0)

    def test_all_small_ones_by_the_words(self):
        switches = weighed(pairs_of(3))[::-1]
        for row in all_rows(range(4), 5):
            box = Box(3, switches)
            told = [box.turn(place) for place in row]
            self.assertEqual(told, [plain_answer(switches, row[:many]) for many in range(1, len(row) + 1)], row)
            self.assertEqual(box.answer(), plain_answer(switches, row), row)
            self.assertEqual(box.lit(), plain_lit(switches, row), row)
            self.assertEqual(box.place(), ([0] + row)[-1])

    def test_three_hundred_switches_and_rows_of_two_thousand_places(self):
        pairs = pairs_of(16)
        switches = [
            (*pairs[number % 136], weight) for number, weight in enumerate(mixed(9, 300, -SIXTY, SIXTY))
        ]
        box = Box(16, switches)
        row = mixed(10, 2000, 0, 16)
        told = [box.turn(place) for place in row]
        for many in list(range(1, 30)) + [500, 1000, 1999, 2000]:
            self.assertEqual(told[many - 1], plain_answer(switches, row[:many]), many)
        self.assertEqual(box.answer(), told[-1])
        self.assertEqual(box.lit(), plain_lit(switches, row))

    def test_kinds(self):
        box = Box(4, [(0, 2, 5), (1, 4, 6)])
        self.assertTrue(is_whole(box.answer()) and is_whole(box.place()) and is_places(box.lit()))
        self.assertTrue(is_whole(box.turn(4)))
        self.assertTrue(is_whole(box.answer()) and is_whole(box.place()) and is_places(box.lit()))
        self.assertIsNone(box.anew())

    def test_anew_all_is_as_at_first(self):
        switches = weighed(pairs_of(5))
        for row in ([], [5], [5, 2], [3, 1, 4, 2], [5, 0]):
            box = gone(Box(5, switches), row)
            self.assertIsNone(box.anew())
            self.assertEqual((box.place(), box.answer(), box.lit()), (0, 0, []))
            gone(box, [4, 1, 3])
            self.assertEqual(box.lit(), plain_lit(switches, [4, 1, 3]))

    def test_asking_changes_nothing(self):
        box = gone(Box(5, weighed(pairs_of(5))), [4, 2])
        told = (box.place(), box.answer(), box.lit())
        self.assertEqual((box.place(), box.answer(), box.lit()), told)
        # Going to where it is already changes nothing either.
        self.assertEqual(box.turn(2), told[1])
        self.assertEqual((box.place(), box.answer(), box.lit()), told)


class BoxRefusals(unittest.TestCase):
    def test_no_box_ahead_of_no_switch(self):
        for top in NO_TOPS:
            for switches in ([], [(0, 1, 5)], [(-1, 1, 5)], [(3, 3, 5)], [(0, SIXTY, 5)]):
                self.assertIs(refusal_of(Box, top, switches), NoBox, top)
        for top in range(1, 17):
            self.assertIsNone(refusal_of(Box, top, []), top)
            self.assertIsNone(refusal_of(Box, top, [(0, top, 0), (top - 1, top, 0)]), top)

    def test_no_switch(self):
        for wrong in ((-1, 1, 5), (-SIXTY, 3, 5), (0, 0, 5), (2, 1, 5), (3, 3, 5), (0, 4, 5), (2, 4, 5), (3, 4, 5),
                      (4, 5, 5), (0, SIXTY, 5), (0, -1, 5), (-2, -1, 5), (5, 4, 5)):
            self.assertIs(refusal_of(Box, 3, [wrong]), NoSwitch, wrong)
            self.assertIs(refusal_of(Box, 3, [(0, 1, 5), wrong]), NoSwitch, wrong)
            self.assertIs(refusal_of(Box, 3, [wrong, (0, 1, 5)]), NoSwitch, wrong)

    def test_no_place_changes_nothing(self):
        for row in ([], [4], [4, 1], [2, 0, 3, 1]):
            box = gone(Box(4, weighed(pairs_of(4))), row)
            told = (box.place(), box.answer(), box.lit())
            for place in (-SIXTY, -2, -1, 5, 6, 16, 17, SIXTY):
                self.assertIs(refusal_of(box.turn, place), NoPlace, place)
                self.assertEqual((box.place(), box.answer(), box.lit()), told, place)
            gone(box, [3])
            self.assertEqual(box.lit(), plain_lit(weighed(pairs_of(4)), row + [3]))

    def test_0_and_the_top_are_places(self):
        for top in (1, 4, 16):
            box = Box(top, [(0, top, 5)])
            self.assertEqual(box.turn(top), 5)
            self.assertEqual(box.turn(0), 0)
            self.assertIs(refusal_of(box.turn, top + 1), NoPlace)
            self.assertIs(refusal_of(box.turn, -1), NoPlace)


class HandedInAndTold(unittest.TestCase):
    def test_the_list_of_switches_stays_and_changed_afterwards_changes_no_box(self):
        switches = [(0, 2, 5), (1, 3, 7)]
        box = Box(3, switches)
        box.turn(3)
        self.assertEqual(switches, [(0, 2, 5), (1, 3, 7)])
        switches[0] = (0, 1, 100)
        switches.append((0, 1, 1000))
        self.assertEqual((box.answer(), box.lit()), (12, [0, 1]))
        box.anew()
        self.assertEqual(box.turn(1), 0)
        switches.clear()
        self.assertEqual(box.turn(3), 12)
        self.assertEqual(box.lit(), [0, 1])

    def test_two_boxes_of_one_list_go_by_themselves(self):
        switches = [(0, 2, 5), (1, 3, 7)]
        one, other = Box(3, switches), Box(3, switches)
        one.turn(3)
        self.assertEqual((one.answer(), one.lit(), one.place()), (12, [0, 1], 3))
        self.assertEqual((other.answer(), other.lit(), other.place()), (0, [], 0))

    def test_the_told_list_is_the_askers_own(self):
        box = gone(Box(3, [(0, 2, 5), (1, 3, 7)]), [3])
        told = box.lit()
        told.append(77)
        told[0] = 78
        self.assertEqual(box.lit(), [0, 1])
        self.assertEqual(box.answer(), 12)
        box.turn(1)
        self.assertEqual(told, [78, 1, 77])


class WipedOut(unittest.TestCase):
    """The answer behind two rows with the same standing places, each begun anew at 0, is one."""

    def test_all_small_rows_with_the_same_standing_places(self):
        for ahead in ([], [0]):
            box = Box(4, weighed(pairs_of(4)))
            answers = {}
            rows = 0
            for row in all_rows(range(5), 5):
                box.anew()
                gone(box, row)
                rows += 1
                standing = tuple(standing_of(ahead + row))
                self.assertEqual(answers.setdefault(standing, box.answer()), box.answer(), row)
            self.assertLess(len(answers), rows // 10)

    def test_the_standing_places_alone_answer_as_the_row(self):
        switches = weighed(pairs_of(16))
        for seed in range(20):
            row = [0] + mixed(seed, 100 * seed, 0, 16)
            whole, standing = Box(16, switches), Box(16, switches)
            self.assertEqual(gone(whole, row).answer(), gone(standing, standing_of(row)).answer())
            self.assertEqual(whole.lit(), standing.lit())


if __name__ == "__main__":
    unittest.main()
