"""Trains, stands, how a wheel is dragged, turnings and rows [2, 4, 5, 6]."""

import copy
import unittest

from lugtrain.errors import NoStand, NoTrain
from lugtrain.trains import dragged, is_stand, is_train, run_of, turned
from reckoning import SIXTY, all_rows, all_wheels, is_places, is_whole, mixed, refusal_of

NO_TRAINS = [[], [-1], [-SIXTY], [-1, 3, 3], [3, -1, 3], [3, 3, -1], [1] * 13, [0] * 13, [1] * 20, [1] * 12 + [-1]]


def plain_dragged(play, ahead, at):
    """By the nearest place within the play: a wheel moves no more than it must."""
    return sorted([ahead - play, at, ahead + play])[1]


def plain_run(plays, wheels, row):
    now = list(wheels)
    told = []
    for place in row:
        for number in range(len(plays)):
            now[number] = plain_dragged(plays[number], place if number == 0 else now[number - 1], now[number])
        told.append(list(now))
    return told


class Dragged(unittest.TestCase):
    def test_within_its_play_it_stays(self):
        for at in range(7, 14):
            self.assertEqual(dragged(3, 10, at), at)

    def test_one_beyond_its_play_it_comes_to_just_its_play_on_that_side(self):
        self.assertEqual(dragged(3, 10, 6), 7)
        self.assertEqual(dragged(3, 10, 14), 13)

    def test_far_beyond(self):
        self.assertEqual(dragged(3, 10, -500), 7)
        self.assertEqual(dragged(3, 10, 500), 13)
        self.assertEqual(dragged(3, -10, 500), -7)
        self.assertEqual(dragged(3, -10, -500), -13)

    def test_without_play_it_goes_along(self):
        for at in range(-3, 4):
            self.assertEqual(dragged(0, 1, at), 1)

    def test_all_small_ones(self):
        for play in range(5):
            for ahead in range(-6, 7):
                for at in range(-12, 13):
                    told = dragged(play, ahead, at)
                    self.assertEqual(told, plain_dragged(play, ahead, at), (play, ahead, at))
                    self.assertTrue(is_whole(told))

    def test_numbers_of_sixty_figures(self):
        self.assertEqual(dragged(SIXTY, 0, SIXTY), SIXTY)
        self.assertEqual(dragged(SIXTY, 0, -SIXTY), -SIXTY)
        self.assertEqual(dragged(SIXTY - 1, 0, SIXTY), SIXTY - 1)
        self.assertEqual(dragged(SIXTY - 1, 0, -SIXTY), 1 - SIXTY)
        self.assertEqual(dragged(1, SIXTY, -SIXTY), SIXTY - 1)
        self.assertEqual(dragged(1, -SIXTY, SIXTY), 1 - SIXTY)
        self.assertEqual(dragged(0, SIXTY, SIXTY - 1), SIXTY)


class Trains(unittest.TestCase):
    def test_one_to_twelve_plays_are_a_train(self):
        for many in range(1, 13):
            self.assertIs(is_train([3] * many), True)
            self.assertIs(is_train([0] * many), True)
        self.assertIs(is_train([SIXTY] * 12), True)

    def test_others_are_none(self):
        for plays in NO_TRAINS:
            self.assertIs(is_train(plays), False, plays)

    def test_a_play_below_0_at_any_place(self):
        for many in range(1, 13):
            for wrong in range(many):
                plays = [2] * many
                plays[wrong] = -1
                self.assertIs(is_train(plays), False, plays)

    def test_the_plays_stay_as_they_are(self):
        for plays in [[3, 1, 2], [3, -1, 2], []]:
            kept = list(plays)
            is_train(plays)
            self.assertEqual(plays, kept)


class Stands(unittest.TestCase):
    def test_a_wheel_just_at_its_play_and_one_beyond(self):
        for side in (1, -1):
            self.assertIs(is_stand([3], 10, [10 + 3 * side]), True)
            self.assertIs(is_stand([3], 10, [10 + 4 * side]), False)
            self.assertIs(is_stand([0], 10, [10]), True)
            self.assertIs(is_stand([0], 10, [10 + side]), False)

    def test_each_wheel_lies_by_the_one_ahead_of_it(self):
        for side in (1, -1):
            self.assertIs(is_stand([3, 2, 1], 0, [3 * side, 5 * side, 6 * side]), True)
            self.assertIs(is_stand([3, 2, 1], 0, [3 * side, 5 * side, 7 * side]), False)
            self.assertIs(is_stand([3, 2, 1], 0, [3 * side, 6 * side, 6 * side]), False)
            self.assertIs(is_stand([3, 2, 1], 0, [4 * side, 5 * side, 6 * side]), False)
        # Near to the handle, but not to the wheel ahead.
        self.assertIs(is_stand([3, 2], 0, [3, 0]), False)

    def test_too_few_or_too_many_wheels(self):
        self.assertIs(is_stand([3, 3], 0, [0, 0]), True)
        for wheels in [[], [0], [0, 0, 0], [0] * 12]:
            self.assertIs(is_stand([3, 3], 0, wheels), False, wheels)
        self.assertIs(is_stand([1] * 12, 0, [0] * 12), True)
        self.assertIs(is_stand([1] * 12, 0, [0] * 11), False)
        self.assertIs(is_stand([1] * 12, 0, [0] * 13), False)

    def test_numbers_of_sixty_figures(self):
        self.assertIs(is_stand([SIXTY, 0], 0, [SIXTY, SIXTY]), True)
        self.assertIs(is_stand([SIXTY - 1, 0], 0, [SIXTY, SIXTY]), False)
        self.assertIs(is_stand([SIXTY, 0], 0, [-SIXTY, 1 - SIXTY]), False)

    def test_no_train_is_refused_whatever_the_wheels_are(self):
        for plays in NO_TRAINS:
            for wheels in [[], [0], [0] * len(plays), [99] * 13]:
                self.assertIs(refusal_of(is_stand, plays, 0, wheels), NoTrain, (plays, wheels))

    def test_all_small_ones(self):
        for handle in range(-1, 2):
            for plays in [[1, 2], [0, 1], [2, 0]]:
                stands = list(all_wheels(plays, handle))
                for wheels in all_rows(range(-5, 6), 2):
                    self.assertIs(is_stand(plays, handle, wheels), wheels in stands, (plays, handle, wheels))


class Turnings(unittest.TestCase):
    def test_a_train_is_dragged_wheel_by_wheel(self):
        self.assertEqual(turned([3, 2, 1], 0, [0, 0, 0], 2), [0, 0, 0])
        self.assertEqual(turned([3, 2, 1], 0, [0, 0, 0], 3), [0, 0, 0])
        self.assertEqual(turned([3, 2, 1], 0, [0, 0, 0], 5), [2, 0, 0])
        self.assertEqual(turned([3, 2, 1], 0, [0, 0, 0], 6), [3, 1, 0])
        self.assertEqual(turned([3, 2, 1], 0, [0, 0, 0], 9), [6, 4, 3])
        self.assertEqual(turned([3, 2, 1], 0, [0, 0, 0], -9), [-6, -4, -3])
        self.assertEqual(turned([0, 0], 4, [4, 4], -7), [-7, -7])

    def test_going_where_it_lies_changes_nothing(self):
        self.assertEqual(turned([3, 2], 1, [4, 2], 1), [4, 2])

    def test_numbers_of_sixty_figures(self):
        self.assertEqual(turned([1, SIXTY], 0, [0, 0], SIXTY), [SIXTY - 1, 0])
        self.assertEqual(turned([1, 1], 0, [0, 0], -SIXTY), [1 - SIXTY, 2 - SIXTY])

    def test_a_row_tells_one_list_behind_each_place(self):
        told = run_of([3, 2], 0, [0, 0], [6, 6, 0, -6])
        self.assertEqual(told, [[3, 1], [3, 1], [3, 1], [-3, -1]])

    def test_a_row_without_places_tells_no_list(self):
        self.assertEqual(run_of([3, 2], 0, [0, 0], []), [])

    def test_all_small_ones(self):
        for plays in [[0], [2], [1, 1], [0, 2], [2, 0, 1]]:
            for wheels in all_wheels(plays, 0):
                for row in all_rows(range(-3, 4), 2):
                    told = run_of(plays, 0, wheels, row)
                    self.assertEqual(told, plain_run(plays, wheels, row), (plays, wheels, row))
                for place in range(-6, 7):
                    self.assertEqual([turned(plays, 0, wheels, place)], plain_run(plays, wheels, [place]))

    def test_long_rows(self):
        plays = mixed(3, 12, 0, 9)
        for many in (1000, 2000):
            row = mixed(many, many, -60, 60)
            told = run_of(plays, 5, [5] * 12, row)
            self.assertEqual(len(told), many)
            self.assertEqual(told, plain_run(plays, [5] * 12, row))

    def test_long_rows_of_sixty_figures(self):
        plays = mixed(4, 12, 0, 2 ** 40)
        row = [place * 10 ** 47 for place in mixed(5, 1000, -(2 ** 40), 2 ** 40)]
        plays = [play * 10 ** 46 for play in plays]
        self.assertEqual(run_of(plays, 0, [0] * 12, row), plain_run(plays, [0] * 12, row))

    def test_a_stand_comes_to_a_stand_again(self):
        plays = [3, 0, 2, 5]
        handle, wheels = 0, [2, 2, 0, -5]
        for place in mixed(6, 300, -20, 20):
            wheels = turned(plays, handle, wheels, place)
            handle = place
            self.assertIs(is_stand(plays, handle, wheels), True)

    def test_a_row_is_as_turnings_one_behind_the_other(self):
        plays = [3, 0, 2, 5]
        row = mixed(7, 200, -20, 20)
        told = run_of(plays, 0, [0] * 4, row)
        handle, wheels = 0, [0] * 4
        for place, then in zip(row, told):
            wheels = turned(plays, handle, wheels, place)
            handle = place
            self.assertEqual(wheels, then)


class Refused(unittest.TestCase):
    def test_no_train_goes_ahead_of_no_stand(self):
        for plays in NO_TRAINS:
            for wheels in [[], [0], [0] * len(plays), [99] * len(plays), [99] * 21]:
                self.assertIs(refusal_of(turned, plays, 0, wheels, 1), NoTrain, (plays, wheels))
                for row in [[], [1], [1, 2]]:
                    self.assertIs(refusal_of(run_of, plays, 0, wheels, row), NoTrain, (plays, wheels))

    def test_no_stand(self):
        for handle, wheels in [(0, []), (0, [0]), (0, [0, 0, 0]), (0, [4, 4]), (0, [-4, -4]), (0, [3, 6]),
                               (0, [3, 0]), (4, [0, 0]), (-4, [0, 0])]:
            self.assertIs(refusal_of(turned, [3, 2], handle, wheels, 0), NoStand, wheels)
            for row in [[], [0], [0, 1]]:
                self.assertIs(refusal_of(run_of, [3, 2], handle, wheels, row), NoStand, wheels)

    def test_just_at_the_plays_nothing_is_refused(self):
        self.assertIsNone(refusal_of(turned, [3, 2], 0, [3, 5], 0))
        self.assertIsNone(refusal_of(run_of, [3, 2], 0, [-3, -5], []))
        self.assertIsNone(refusal_of(turned, [1] * 12, 0, list(range(1, 13)), 0))


class HandedInAndTold(unittest.TestCase):
    def test_what_is_handed_in_stays_as_it_is(self):
        for row in [[], [9], [9, 9, -9, 2]]:
            things = [[3, 2], 0, [1, 1], row]
            kept = copy.deepcopy(things)
            run_of(*things)
            self.assertEqual(things, kept)
        things = [[3, 2], 0, [1, 1], 9]
        turned(*things)
        is_stand(*things[:3])
        self.assertEqual(things, [[3, 2], 0, [1, 1], 9])

    def test_what_is_refused_stays_as_it_is(self):
        things = [[3, 2], 0, [9, 9], [4]]
        refusal_of(run_of, *things)
        refusal_of(turned, *things)
        is_stand(*things[:3])
        self.assertEqual(things, [[3, 2], 0, [9, 9], [4]])

    def test_told_are_lists_of_whole_numbers(self):
        self.assertTrue(is_places(turned([3, 2], 0, [1, 1], 9)))
        told = run_of([3, 2], 0, [1, 1], [9, 1])
        self.assertIs(told.__class__, list)
        self.assertTrue(all(is_places(places) for places in told))
        self.assertIs(run_of([3], 0, [0], []).__class__, list)

    def test_a_told_list_is_not_the_one_handed_in(self):
        wheels = [1, 1]
        told = turned([3, 2], 0, wheels, 0)
        self.assertEqual(told, [1, 1])
        told.append(7)
        for places in run_of([3, 2], 0, wheels, [0, 0]):
            places[0] = 7
        self.assertEqual(wheels, [1, 1])
        row = []
        run_of([3, 2], 0, wheels, row).append(7)
        self.assertEqual(row, [])

    def test_a_told_list_changes_no_other_one(self):
        # The wheels stay, so one list would do for all three; each is to be its own.
        told = run_of([3, 2], 0, [1, 1], [0, 0, 1])
        told[0].append(7)
        told[1][0] = 8
        self.assertEqual(told, [[1, 1, 7], [8, 1], [1, 1]])

    def test_a_told_list_is_told_again_as_before(self):
        for row in [[], [0, 0], [9, -9]]:
            told = run_of([3, 2], 0, [1, 1], row)
            kept = copy.deepcopy(told)
            for places in told:
                places.clear()
            told.append([7])
            self.assertEqual(run_of([3, 2], 0, [1, 1], row), kept)
        told = turned([3, 2], 0, [1, 1], 9)
        told.clear()
        self.assertEqual(turned([3, 2], 0, [1, 1], 9), [6, 4])

    def test_what_was_handed_in_is_not_kept(self):
        plays, wheels, row = [3, 2], [1, 1], [0, 9]
        told = run_of(plays, 0, wheels, row)
        plays[0], wheels[0], row[0] = 4, 2, -9
        self.assertEqual(told, [[1, 1], [6, 4]])
        self.assertEqual(run_of(plays, 0, wheels, row), [[-5, -3], [5, 3]])


if __name__ == "__main__":
    unittest.main()
