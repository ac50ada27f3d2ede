"""Turning places and standing places [2, 3, 9, 10]."""

import unittest

from lugtrain.returns import standing_of, turning_of
from lugtrain.trains import run_of
from reckoning import (
    LONG_ROWS, SIXTY, all_rows, all_wheels, growing, is_places, plain_standing, plain_turning, shrinking,
)


class Turning(unittest.TestCase):
    def test_without_places_and_of_one(self):
        self.assertEqual(turning_of([]), [])
        self.assertEqual(turning_of([5]), [5])
        self.assertEqual(turning_of([-SIXTY]), [-SIXTY])

    def test_that_stays_at_one_place(self):
        self.assertEqual(turning_of([5, 5]), [5])
        self.assertEqual(turning_of([5] * 9), [5])

    def test_going_one_way_only(self):
        self.assertEqual(turning_of([1, 2]), [1, 2])
        self.assertEqual(turning_of([1, 2, 5, 9]), [1, 9])
        self.assertEqual(turning_of([9, 5, 2, 1]), [9, 1])
        self.assertEqual(turning_of([1, 1, 2, 2, 2, 9, 9]), [1, 9])

    def test_that_turns(self):
        self.assertEqual(turning_of([1, 5, 2]), [1, 5, 2])
        self.assertEqual(turning_of([5, 1, 5]), [5, 1, 5])
        self.assertEqual(turning_of([0, 2, 5, 3, 1, 4]), [0, 5, 1, 4])

    def test_the_same_place_several_times_counts_once(self):
        self.assertEqual(turning_of([1, 5, 5, 5, 2]), [1, 5, 2])
        self.assertEqual(turning_of([1, 1, 5, 5, 2, 2]), [1, 5, 2])
        self.assertEqual(turning_of([5, 5, 1, 1, 5, 5]), [5, 1, 5])
        # Not one behind the other, so it counts each time.
        self.assertEqual(turning_of([1, 5, 1, 5]), [1, 5, 1, 5])

    def test_all_small_ones_by_the_words(self):
        for row in all_rows(range(4), 6):
            self.assertEqual(turning_of(row), plain_turning(row), row)

    def test_numbers_of_sixty_figures(self):
        self.assertEqual(turning_of([SIXTY - 1, SIXTY, SIXTY - 2]), [SIXTY - 1, SIXTY, SIXTY - 2])
        self.assertEqual(turning_of([-SIXTY, 1 - SIXTY, 2 - SIXTY]), [-SIXTY, 2 - SIXTY])

    def test_rows_of_two_thousand_places_by_the_words(self):
        for row in LONG_ROWS:
            self.assertEqual(turning_of(row), plain_turning(row), row[:9])


class Standing(unittest.TestCase):
    def test_without_places_and_of_one(self):
        self.assertEqual(standing_of([]), [])
        self.assertEqual(standing_of([5]), [5])

    def test_that_stays_at_one_place(self):
        self.assertEqual(standing_of([5, 5]), [5])
        self.assertEqual(standing_of([-2] * 9), [-2])

    def test_going_one_way_only(self):
        self.assertEqual(standing_of([1, 2, 5, 9]), [1, 9])
        self.assertEqual(standing_of([9, 5, 2, 1]), [9, 1])
        self.assertEqual(standing_of([1, 1, 9, 9]), [1, 9])

    def test_later_ones_wipe_out(self):
        self.assertEqual(standing_of([3, 5, 4, 8, 1]), [8, 1])
        self.assertEqual(standing_of([0, 9, 4, 6, 5]), [0, 9, 4, 6, 5])
        self.assertEqual(standing_of([0, 9, 4, 6, 3]), [0, 9, 3])
        self.assertEqual(standing_of([5, 0, 9, 2, 7, 3, 7, 4]), [0, 9, 2, 7, 4])

    def test_the_greatest_or_the_least_several_times(self):
        # What counts is which is left earlier for good, not which comes first.
        self.assertEqual(standing_of([9, 0, 9]), [0, 9])
        self.assertEqual(standing_of([0, 9, 0]), [9, 0])
        self.assertEqual(standing_of([9, 0, 9, 0]), [9, 0])
        self.assertEqual(standing_of([0, 9, 0, 9, 4]), [0, 9, 4])
        self.assertEqual(standing_of([9, 0, 9, 0, 4]), [9, 0, 4])
        self.assertEqual(standing_of([0, 9, 9, 3, 9, 3, 3]), [0, 9, 3])
        self.assertEqual(standing_of([0, 9, 3, 5, 3, 5, 4]), [0, 9, 3, 5, 4])
        self.assertEqual(standing_of([0, 0, 9, 3, 9, 4, 4]), [0, 9, 4])

    def test_all_small_ones_by_the_words(self):
        for row in all_rows(range(4), 6):
            self.assertEqual(standing_of(row), plain_standing(row), row)

    def test_numbers_of_sixty_figures(self):
        row = [SIXTY, -SIXTY, SIXTY - 1, 1 - SIXTY]
        self.assertEqual(standing_of(row), row)
        self.assertEqual(standing_of([SIXTY - 1, -SIXTY, SIXTY]), [-SIXTY, SIXTY])

    def test_rows_of_two_thousand_places_by_the_words(self):
        for row in LONG_ROWS:
            self.assertEqual(standing_of(row), plain_standing(row), row[:9])

    def test_a_shrinking_row_stands_and_a_growing_one_is_wiped_out(self):
        self.assertEqual(standing_of(shrinking(2000)), shrinking(2000))
        self.assertEqual(standing_of(growing(2000)), growing(2000)[-2:])

    def test_they_draw_together_up_to_the_last_place(self):
        for row in LONG_ROWS + list(all_rows(range(-2, 3), 5)):
            told = standing_of(row)
            self.assertEqual(told[-1:], row[-1:])
            for at in range(2, len(told)):
                self.assertLess(abs(told[at] - told[at - 1]), abs(told[at - 1] - told[at - 2]))
            self.assertEqual(standing_of(told), told)


class HandedInAndTold(unittest.TestCase):
    def test_the_row_stays_and_the_told_list_is_a_new_one(self):
        for asked in (turning_of, standing_of):
            for row in [[], [5], [5, 5], [0, 9], [0, 9, 4, 6, 5], [1, 2, 3, 1, 1]]:
                kept = list(row)
                told = asked(row)
                again = list(told)
                self.assertTrue(is_places(told))
                self.assertEqual(row, kept)
                told.append(77)
                told[0] = 78
                self.assertEqual(row, kept)
                self.assertEqual(asked(row), again)


class WhatTrainsTell(unittest.TestCase):
    """[3]: trains can't tell a row from another one with the same standing places."""

    TRAINS = [[0], [1], [2], [1, 1], [0, 1], [1, 0, 1]]

    def stands_behind(self, row, start):
        """Where every train comes to by the row from every stand at the start."""
        ends = []
        for plays in self.TRAINS:
            for wheels in all_wheels(plays, start):
                ends.append(([wheels] + run_of(plays, start, wheels, row))[-1])
        return ends

    def test_a_row_and_its_standing_places_lead_to_one_stand(self):
        for row in all_rows(range(4), 5):
            if row:
                told = standing_of(row)
                self.assertEqual(self.stands_behind(row, row[0]), self.stands_behind(told, row[0]), row)

    def test_two_rows_with_the_same_standing_places_lead_to_one_stand(self):
        behind = {}
        for row in all_rows(range(4), 5):
            if row:
                ends = self.stands_behind(row, row[0])
                self.assertEqual(behind.setdefault((row[0], tuple(standing_of(row))), ends), ends, row)

    def test_long_rows_lead_to_one_stand(self):
        plays = [3, 0, 7, 20, 1, 90, 2, 0, 400, 5, 6, 8]
        for row in LONG_ROWS:
            start = row[0]
            for side in (1, -1):
                wheels = [start + side * sum(plays[:many]) for many in range(1, 13)]
                whole = run_of(plays, start, wheels, row)[-1]
                self.assertEqual(run_of(plays, start, wheels, standing_of(row))[-1], whole, row[:9])
                self.assertEqual(run_of(plays, start, wheels, turning_of(row))[-1], whole, row[:9])


if __name__ == "__main__":
    unittest.main()
