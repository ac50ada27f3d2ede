"""Swings, what is left, and the whole way of a wheel [2, 3, 11, 12]."""

import unittest

from lugtrain.errors import NoStand
from lugtrain.hung import hung_row, way_of
from lugtrain.swings import swings_of, wheel_way
from lugtrain.trains import run_of
from reckoning import (
    LONG_ROWS, SIXTY, a_stand, all_rows, growing, is_places, is_whole, mixed, plain_depths, plain_turning, plain_way,
    refusal_of, shrinking,
)


def plain_pile(row):
    """The swings and what is left, on a pile by the document's words."""
    swings = []
    pile = ()
    for place in plain_turning(row):
        pile += (place,)
        while len(pile) >= 4:
            *rest, first, second, third, fourth = pile
            if abs(second - third) > abs(first - second) or abs(second - third) > abs(third - fourth):
                break
            swings.append((second, third) if second < third else (third, second))
            pile = (*rest, first, fourth)
    return swings, list(pile)


def walked_way(depth, at, row):
    """The wheel's whole way, place for place."""
    places = [at]
    for place in row:
        places.append(sorted([place - depth, places[-1], place + depth])[1])
    return plain_way(places)


class Swings(unittest.TestCase):
    def test_without_places_and_of_one(self):
        self.assertEqual(swings_of([]), ([], []))
        self.assertEqual(swings_of([5]), ([], [5]))
        self.assertEqual(swings_of([-SIXTY]), ([], [-SIXTY]))

    def test_that_stay_at_one_place(self):
        self.assertEqual(swings_of([5, 5]), ([], [5]))
        self.assertEqual(swings_of([5] * 2000), ([], [5]))

    def test_that_go_one_way_only(self):
        self.assertEqual(swings_of([1, 2, 5, 9]), ([], [1, 9]))
        self.assertEqual(swings_of([9, 5, 5, 1]), ([], [9, 1]))

    def test_fewer_than_four_turning_places_are_left(self):
        self.assertEqual(swings_of([0, 9, 3]), ([], [0, 9, 3]))
        self.assertEqual(swings_of([0, 9, 0]), ([], [0, 9, 0]))

    def test_the_middle_two_of_four(self):
        self.assertEqual(swings_of([0, 6, 3, 9]), ([(3, 6)], [0, 9]))
        self.assertEqual(swings_of([9, 3, 6, 0]), ([(3, 6)], [9, 0]))

    def test_just_as_far_is_no_farther(self):
        self.assertEqual(swings_of([0, 6, 0, 9]), ([(0, 6)], [0, 9]))
        self.assertEqual(swings_of([0, 9, 3, 9]), ([(3, 9)], [0, 9]))
        self.assertEqual(swings_of([0, 6, 0, 6]), ([(0, 6)], [0, 6]))
        self.assertEqual(swings_of([6, 0, 6, 0]), ([(0, 6)], [6, 0]))

    def test_one_farther_is_left(self):
        # The middle two lie farther apart than the lower two, or than the upper two.
        self.assertEqual(swings_of([0, 6, -1, 9]), ([], [0, 6, -1, 9]))
        self.assertEqual(swings_of([0, 9, 3, 8]), ([], [0, 9, 3, 8]))

    def test_a_place_can_take_out_several(self):
        self.assertEqual(swings_of([0, 9, 2, 7, 4, 10]), ([(4, 7), (2, 9)], [0, 10]))
        self.assertEqual(swings_of([0, 9, 2, 7, 4, 6, 1]), ([(4, 6), (2, 7)], [0, 9, 1]))

    def test_they_are_told_in_the_order_in_which_they_are_taken_out(self):
        self.assertEqual(swings_of([0, 5, 4, 9, 1, 3, 2, 10]), ([(4, 5), (2, 3), (1, 9)], [0, 10]))
        self.assertEqual(swings_of([0, 8, 6, 9, 1, 2, 0, 10]), ([(6, 8), (1, 2), (0, 9)], [0, 10]))

    def test_the_same_swing_several_times(self):
        self.assertEqual(swings_of([0, 5, 3, 5, 3, 5, 3, 9]), ([(3, 5)] * 3, [0, 9]))

    def test_only_turning_places_count(self):
        self.assertEqual(swings_of([0, 2, 6, 6, 5, 3, 3, 4, 9, 9]), ([(3, 6)], [0, 9]))

    def test_all_small_ones_by_the_words(self):
        for row in all_rows(range(4), 6):
            self.assertEqual(swings_of(row), plain_pile(row), row)

    def test_small_ones_of_more_places_by_the_words(self):
        for seed in range(300):
            row = mixed(seed, 20, -6, 6)
            self.assertEqual(swings_of(row), plain_pile(row), row)

    def test_rows_of_two_thousand_places_by_the_words(self):
        for row in LONG_ROWS:
            self.assertEqual(swings_of(row), plain_pile(row), row[:9])

    def test_growing_and_shrinking_rows_are_left(self):
        self.assertEqual(swings_of(growing(2000)), ([], growing(2000)))
        self.assertEqual(swings_of(shrinking(2000)), ([], shrinking(2000)))

    def test_one_place_takes_out_a_whole_shrinking_row(self):
        row = [-5000] + shrinking(1998)[1:] + [5000]
        swings, left = swings_of(row)
        self.assertEqual(left, [-5000, 5000])
        self.assertEqual(len(swings), 998)
        self.assertEqual(swings[0], (-2, 3))
        self.assertEqual(swings[-1], (-1996, 1997))

    def test_the_swings_and_what_is_left_are_the_turning_places(self):
        for row in LONG_ROWS + list(all_rows(range(-2, 3), 5)):
            swings, left = swings_of(row)
            together = left + [low for low, high in swings] + [high for low, high in swings]
            self.assertEqual(sorted(together), sorted(plain_turning(row)), row[:9])
            self.assertEqual(left[:1], row[:1])
            self.assertEqual(left[-1:], row[-1:])

    def test_low_below_high(self):
        for row in LONG_ROWS + list(all_rows(range(-2, 3), 5)):
            for low, high in swings_of(row)[0]:
                self.assertLess(low, high)

    def test_numbers_of_sixty_figures(self):
        self.assertEqual(
            swings_of([-SIXTY, SIXTY - 1, 1 - SIXTY, SIXTY]), ([(1 - SIXTY, SIXTY - 1)], [-SIXTY, SIXTY]),
        )
        self.assertEqual(
            swings_of([1 - SIXTY, SIXTY - 1, -SIXTY, SIXTY]), ([], [1 - SIXTY, SIXTY - 1, -SIXTY, SIXTY]),
        )

    def test_kinds(self):
        for row in [[], [5], [0, 6, 3, 9], [0, 9, 2, 7, 4, 10]]:
            told = swings_of(row)
            self.assertIs(told.__class__, tuple)
            swings, left = told
            self.assertIs(swings.__class__, list)
            self.assertTrue(is_places(left))
            for swing in swings:
                self.assertIs(swing.__class__, tuple)
                self.assertEqual(len(swing), 2)
                self.assertTrue(all(is_whole(place) for place in swing))

    def test_the_row_stays_and_the_told_lists_are_new_ones(self):
        for row in [[], [5], [5, 5], [0, 9], [0, 6, 3, 9], [0, 9, 2, 7, 4, 10]]:
            kept = list(row)
            expected = plain_pile(row)
            swings, left = swings_of(row)
            self.assertEqual(row, kept)
            swings.append((7, 8))
            left.append(77)
            left[0] = 78
            self.assertEqual(row, kept)
            self.assertEqual(swings_of(row), expected)


class WheelWay(unittest.TestCase):
    def test_a_wheel_without_depth_goes_as_the_handle(self):
        self.assertEqual(wheel_way(0, 4, [4, 9, 2, 2, 5]), 15)
        for row in LONG_ROWS:
            self.assertEqual(wheel_way(0, row[0], row), plain_way(row))

    def test_small_ones_by_hand(self):
        # Up to 7, back to 4, up again to 8: the swing (3, 8) and, of what is left, the way from 0 to 8.
        self.assertEqual(swings_of([0, 8, 3, 9]), ([(3, 8)], [0, 9]))
        self.assertEqual(wheel_way(1, 0, [0, 8, 3, 9]), 14)
        self.assertEqual(wheel_way(1, 1, [0, 8, 3, 9]), 13)
        self.assertEqual(wheel_way(1, -1, [0, 8, 3, 9]), 15)
        self.assertEqual(wheel_way(2, 0, [0, 8, 3, 9]), 9)
        self.assertEqual(wheel_way(3, 0, [0, 8, 3, 9]), 6)

    def test_depths_about_half_of_a_swings_width(self):
        row = [0, 20, 10, 30]
        self.assertEqual(swings_of(row), ([(10, 20)], [0, 30]))
        self.assertEqual(wheel_way(4, 0, row), 2 * 2 + 26)
        self.assertEqual(wheel_way(5, 0, row), 25)
        self.assertEqual(wheel_way(6, 0, row), 24)
        odd = [0, 21, 10, 30]
        self.assertEqual(swings_of(odd), ([(10, 21)], [0, 30]))
        self.assertEqual(wheel_way(5, 0, odd), 2 * 1 + 25)
        self.assertEqual(wheel_way(6, 0, odd), 24)

    def test_a_row_of_one_place_or_that_stays(self):
        for at in (2, 5, 8):
            self.assertEqual(wheel_way(3, at, [5]), 0)
            self.assertEqual(wheel_way(3, at, [5, 5, 5]), 0)

    def test_all_small_ones_by_walking(self):
        for row in all_rows(range(4), 5):
            for depth in range(4) if row else []:
                for at in range(row[0] - depth, row[0] + depth + 1):
                    told = wheel_way(depth, at, row)
                    self.assertEqual(told, walked_way(depth, at, row), (depth, at, row))
                    self.assertEqual(told, way_of([at] + hung_row(depth, at, row)), (depth, at, row))

    def test_rows_of_two_thousand_places_by_walking(self):
        for row in LONG_ROWS:
            widths = [high - low for low, high in swings_of(row)[0][:3]] + [max(row) - min(row)]
            halves = [max(0, width // 2 + more) for width in widths for more in (-1, 0, 1)]
            for depth in [0, 1, 2, 7, SIXTY] + halves:
                for at in (row[0] - depth, row[0] - depth // 2, row[0], row[0] + depth // 3, row[0] + depth):
                    self.assertEqual(wheel_way(depth, at, row), walked_way(depth, at, row), (depth, row[:9]))

    def test_it_is_told_by_the_counted_swings(self):
        for row in LONG_ROWS + [[0, 8, 3, 9], [5]]:
            swings, left = swings_of(row)
            for depth in (0, 1, 3, 40, 700):
                at = row[0] + depth
                beyond = sum(high - low - 2 * depth for low, high in swings if high - low > 2 * depth)
                self.assertEqual(wheel_way(depth, at, row), 2 * beyond + walked_way(depth, at, left))

    def test_each_wheel_of_a_train_goes_the_told_way(self):
        for seed in range(60):
            plays = mixed(seed, 1 + seed % 12, 0, 4)
            handle, wheels = a_stand(seed, plays, -20, 20)
            row = [handle] + mixed(seed + 1000, 40, -40, 40)
            run = run_of(plays, handle, wheels, row)
            for number, at in enumerate(wheels):
                walked = plain_way([at] + [places[number] for places in run])
                self.assertEqual(wheel_way(plain_depths(plays)[number], at, row), walked, (seed, number))

    def test_numbers_of_sixty_figures(self):
        row = [0, SIXTY, -SIXTY, SIXTY, 0]
        self.assertEqual(wheel_way(0, 0, row), 6 * SIXTY)
        self.assertEqual(wheel_way(1, -1, row), 6 * SIXTY - 6)
        self.assertEqual(wheel_way(SIXTY, 0, row), 0)
        self.assertEqual(wheel_way(SIXTY, SIXTY, row), SIXTY)
        self.assertEqual(wheel_way(SIXTY, -SIXTY, row), SIXTY)
        self.assertEqual(wheel_way(SIXTY - 1, 0, row), walked_way(SIXTY - 1, 0, row))
        self.assertTrue(is_whole(wheel_way(1, -1, row)))

    def test_a_wheel_at_either_end_of_its_depth_and_one_beyond(self):
        for depth in (0, 1, 5, SIXTY):
            for first in (-9, 0, 9, SIXTY):
                row = [first, first + 3]
                for at in (first - depth, first + depth):
                    self.assertEqual(wheel_way(depth, at, row), walked_way(depth, at, row))
                for at in (first - depth - 1, first + depth + 1, first + depth + SIXTY):
                    self.assertIs(refusal_of(wheel_way, depth, at, row), NoStand)

    def test_only_the_rows_first_place_is_asked(self):
        # Later places lie as far off as they like, the first one does not.
        self.assertEqual(wheel_way(2, 0, [1, 50, 0]), 48 + 46)
        self.assertIs(refusal_of(wheel_way, 2, 0, [50, 1, 0]), NoStand)

    def test_a_row_without_places(self):
        self.assertIs(refusal_of(wheel_way, 0, 0, []), NoStand)
        self.assertIs(refusal_of(wheel_way, 5, 3, []), NoStand)
        self.assertIs(refusal_of(wheel_way, SIXTY, 0, []), NoStand)

    def test_the_row_stays(self):
        row = [0, 8, 3, 3, 9]
        wheel_way(1, 0, row)
        self.assertEqual(row, [0, 8, 3, 3, 9])


if __name__ == "__main__":
    unittest.main()
