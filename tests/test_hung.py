"""Depths, a wheel that hangs on the handle alone, the way of a list of places [2, 3, 7, 8]."""

import unittest

from lugtrain.errors import NoTrain
from lugtrain.hung import depths_of, hung_row, way_of
from lugtrain.trains import run_of
from reckoning import SIXTY, all_rows, all_wheels, is_places, is_whole, mixed, refusal_of

NO_TRAINS = [[], [-1], [-1, 3], [3, -1], [3, -1, 3], [1] * 13, [0] * 13, [1] * 20]


class Depths(unittest.TestCase):
    def test_each_is_the_sum_of_the_plays_up_to_it(self):
        self.assertEqual(depths_of([3]), [3])
        self.assertEqual(depths_of([0]), [0])
        self.assertEqual(depths_of([3, 2, 1]), [3, 5, 6])
        self.assertEqual(depths_of([0, 0, 4, 0]), [0, 0, 4, 4])
        self.assertEqual(depths_of([1] * 12), list(range(1, 13)))

    def test_numbers_of_sixty_figures(self):
        self.assertEqual(depths_of([SIXTY] * 12), [SIXTY * many for many in range(1, 13)])

    def test_no_train_is_refused(self):
        for plays in NO_TRAINS:
            self.assertIs(refusal_of(depths_of, plays), NoTrain, plays)

    def test_the_told_list_is_a_new_one(self):
        for plays in [[3], [3, 2], [0, 0], [5, 0]]:
            kept = list(plays)
            told = depths_of(plays)
            again = list(told)
            self.assertTrue(is_places(told))
            told.append(7)
            told[0] = 9
            self.assertEqual(plays, kept)
            self.assertEqual(depths_of(plays), again)


class HungAlone(unittest.TestCase):
    def test_it_is_dragged_by_the_handle(self):
        self.assertEqual(hung_row(3, 0, [1, 3, 4, 1, -2, -3, -9]), [0, 0, 1, 1, 1, 0, -6])
        self.assertEqual(hung_row(0, 0, [4, -4, -4, 2]), [4, -4, -4, 2])

    def test_one_behind_each_place(self):
        self.assertEqual(hung_row(3, 5, []), [])
        self.assertEqual(hung_row(3, 5, [5]), [5])
        self.assertEqual(hung_row(3, 5, [5, 5, 5]), [5, 5, 5])

    def test_it_may_lie_anywhere_at_first(self):
        self.assertEqual(hung_row(3, 100, [0, 1]), [3, 3])
        self.assertEqual(hung_row(3, -100, [0, 1]), [-3, -2])

    def test_numbers_of_sixty_figures(self):
        self.assertEqual(hung_row(1, 0, [SIXTY, -SIXTY, SIXTY]), [SIXTY - 1, 1 - SIXTY, SIXTY - 1])
        self.assertEqual(hung_row(SIXTY, 0, [SIXTY, -SIXTY]), [0, 0])

    def test_long_rows(self):
        for depth in (0, 1, 7, 30):
            row = mixed(depth + 1, 2000, -20, 20)
            at, plain = 4, []
            for place in row:
                at = sorted([place - depth, at, place + depth])[1]
                plain.append(at)
            self.assertEqual(hung_row(depth, 4, row), plain)

    def test_the_row_stays_and_the_told_list_is_a_new_one(self):
        row = [4, -4, 2]
        told = hung_row(0, 0, row)
        self.assertEqual(told, row)
        self.assertTrue(is_places(told))
        told.clear()
        self.assertEqual(row, [4, -4, 2])
        self.assertEqual(hung_row(0, 0, row), [4, -4, 2])
        nothing = []
        hung_row(0, 0, nothing).append(7)
        self.assertEqual(nothing, [])
        self.assertEqual(hung_row(0, 0, nothing), [])


class EachWheelAsIfAlone(unittest.TestCase):
    def assert_as_if_alone(self, plays, handle, wheels, row):
        run = run_of(plays, handle, wheels, row)
        depths = depths_of(plays)
        for number in range(len(plays)):
            gone = [places[number] for places in run]
            alone = hung_row(depths[number], wheels[number], row)
            self.assertEqual(gone, alone, (plays, handle, wheels, row, number))

    def test_all_small_ones(self):
        for plays in [[0], [1], [2], [1, 1], [0, 2], [2, 0], [1, 0, 2], [1, 1, 1]]:
            for wheels in all_wheels(plays, 0):
                for row in all_rows(range(-4, 5), 2):
                    self.assert_as_if_alone(plays, 0, wheels, row)

    def test_all_small_rows_of_four(self):
        for wheels in all_wheels([1, 1], 1):
            for row in all_rows(range(-2, 4), 4):
                self.assert_as_if_alone([1, 1], 1, wheels, row)

    def test_long_rows_of_trains_of_twelve(self):
        for seed in range(1, 6):
            plays = mixed(seed, 12, 0, 6)
            handle, wheels = seed, []
            for play in plays:
                ahead = wheels[-1] if wheels else handle
                wheels.append(ahead + play * (1 if (seed + play) % 2 else -1))
            self.assert_as_if_alone(plays, handle, wheels, mixed(seed + 50, 2000, -50, 50))

    def test_numbers_of_sixty_figures(self):
        plays = [10 ** 58, 10 ** 59, 0, 3]
        row = [place * 10 ** 48 for place in mixed(9, 1000, -(10 ** 11), 10 ** 11)]
        self.assert_as_if_alone(plays, 0, [0] * 4, row)


class Ways(unittest.TestCase):
    def test_fewer_than_two_places(self):
        for places in [[], [5], [-SIXTY]]:
            told = way_of(places)
            self.assertEqual(told, 0)
            self.assertTrue(is_whole(told))

    def test_the_sum_of_all_steps(self):
        self.assertEqual(way_of([3, 5]), 2)
        self.assertEqual(way_of([5, 3]), 2)
        self.assertEqual(way_of([3, 3]), 0)
        self.assertEqual(way_of([0, 4, -4, -4, 1]), 17)
        self.assertEqual(way_of([0, 5, 0]), 10)

    def test_long_lists_and_numbers_of_sixty_figures(self):
        self.assertEqual(way_of(list(range(2000))), 1999)
        self.assertEqual(way_of([0, 1] * 1000), 1999)
        self.assertEqual(way_of([SIXTY, -SIXTY] * 1000), 1999 * 2 * SIXTY)
        places = mixed(8, 2000, -99, 99)
        plain = 0
        for at in range(1, 2000):
            plain += max(places[at], places[at - 1]) - min(places[at], places[at - 1])
        self.assertEqual(way_of(places), plain)

    def test_the_places_stay_as_they_are(self):
        places = [0, 4, -4]
        way_of(places)
        self.assertEqual(places, [0, 4, -4])


if __name__ == "__main__":
    unittest.main()
