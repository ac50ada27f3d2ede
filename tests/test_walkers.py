"""Walkers: going, taking back, and what they tell [2, 3, 6, 26]."""

import unittest

from lugtrain.errors import NoStand, NothingLeft, NoTrain
from lugtrain.trains import run_of, turned
from lugtrain.walkers import Walker
from reckoning import (
    NO_STANDS, NO_TRAINS, SIXTY, a_stand, all_rows, all_wheels, is_places, is_whole, mixed, plain_way, refusal_of,
)


def told_by(walker):
    return (walker.handle(), walker.wheels(), walker.ways())


def plain_told(plays, handle, wheels, row):
    """What a walker tells that has gone the row and has taken back nothing."""
    run = [wheels] + run_of(plays, handle, wheels, row)
    ways = [plain_way([places[number] for places in run]) for number in range(len(plays))]
    return (([handle] + row)[-1], run[-1], ways)


def gone(walker, row):
    for place in row:
        walker.go(place)
    return walker


class Going(unittest.TestCase):
    def test_at_first(self):
        self.assertEqual(told_by(Walker([3, 2], 7, [5, 6])), (7, [5, 6], [0, 0]))
        self.assertEqual(told_by(Walker([0], 0, [0])), (0, [0], [0]))

    def test_each_going_is_told(self):
        walker = Walker([3, 2], 0, [0, 0])
        for place, wheels, ways in (
            (9, [6, 4], [6, 4]), (0, [3, 4], [9, 4]), (0, [3, 4], [9, 4]), (-6, [-3, -1], [15, 9]),
            (-5, [-3, -1], [15, 9]), (1, [-2, -1], [16, 9]),
        ):
            self.assertEqual(walker.go(place), wheels)
            self.assertEqual(told_by(walker), (place, wheels, ways))

    def test_against_turned(self):
        for seed in range(60):
            most = (3, 20, SIXTY)[seed % 3]
            plays = mixed(seed, 1 + seed % 12, 0, most)
            handle, wheels = a_stand(seed, plays, -most, most)
            walker = Walker(plays, handle, wheels)
            for place in mixed(seed + 70, 25, -3 * most, 3 * most):
                wheels = turned(plays, handle, wheels, place)
                handle = place
                self.assertEqual(walker.go(place), wheels)
                self.assertEqual((walker.handle(), walker.wheels()), (handle, wheels))

    def test_all_small_rows(self):
        for plays in ([0], [1], [1, 1], [2, 0]):
            for wheels in all_wheels(plays, 0):
                for row in all_rows(range(-2, 3), 3):
                    walker = gone(Walker(plays, 0, wheels), row)
                    self.assertEqual(told_by(walker), plain_told(plays, 0, wheels, row))

    def test_kinds(self):
        walker = Walker([3, 2], 0, [0, 0])
        self.assertTrue(is_places(walker.wheels()) and is_places(walker.ways()) and is_whole(walker.handle()))
        self.assertTrue(is_places(walker.go(5)))
        self.assertTrue(is_places(walker.wheels()) and is_places(walker.ways()) and is_whole(walker.handle()))
        self.assertIsNone(walker.back())


class TakingBack(unittest.TestCase):
    def test_one_by_one_to_the_very_first(self):
        for seed in range(12):
            plays = mixed(seed, 1 + seed, 0, 9)
            handle, wheels = a_stand(seed, plays, -20, 20)
            row = mixed(seed + 40, 30, -20, 20)
            walker = gone(Walker(plays, handle, wheels), row)
            for many in reversed(range(30)):
                self.assertIsNone(walker.back())
                self.assertEqual(told_by(walker), plain_told(plays, handle, wheels, row[:many]), (seed, many))
            self.assertEqual(told_by(walker), (handle, wheels, [0] * len(plays)))

    def test_a_going_to_where_it_lies_is_one_too(self):
        walker = Walker([1], 0, [0])
        gone(walker, [5, 5, 5])
        for handle, wheels, ways in ((5, [4], [4]), (5, [4], [4]), (0, [0], [0])):
            walker.back()
            self.assertEqual(told_by(walker), (handle, wheels, ways))
        still = Walker([1], 0, [0])
        still.go(0)
        self.assertIsNone(refusal_of(still.back))
        self.assertIs(refusal_of(still.back), NothingLeft)

    def test_going_on_behind_it(self):
        walker = Walker([2, 1], 0, [0, 0])
        gone(walker, [9, -9, 4])
        walker.back()
        walker.back()
        self.assertEqual(walker.go(3), plain_told([2, 1], 0, [0, 0], [9, 3])[1])
        self.assertEqual(told_by(walker), plain_told([2, 1], 0, [0, 0], [9, 3]))
        walker.back()
        self.assertEqual(told_by(walker), plain_told([2, 1], 0, [0, 0], [9]))
        walker.back()
        self.assertEqual(told_by(walker), (0, [0, 0], [0, 0]))

    def test_what_is_taken_back_was_never_done(self):
        for seed in range(40):
            most = (4, 30, SIXTY)[seed % 3]
            plays = mixed(seed, 1 + seed % 12, 0, most)
            handle, wheels = a_stand(seed, plays, -most, most)
            walker = Walker(plays, handle, wheels)
            kept = []
            for choice, place in zip(mixed(seed + 1, 120, 0, 4), mixed(seed + 2, 120, -2 * most, 2 * most)):
                if choice < 2 and kept:
                    walker.back()
                    kept.pop()
                elif choice < 2:
                    self.assertIs(refusal_of(walker.back), NothingLeft)
                else:
                    walker.go(place)
                    kept.append(place)
                self.assertEqual(told_by(walker), plain_told(plays, handle, wheels, kept), (seed, kept))

    def test_nothing_left(self):
        walker = Walker([3, 2], 1, [0, 1])
        for time in range(3):
            self.assertIs(refusal_of(walker.back), NothingLeft)
            self.assertEqual(told_by(walker), (1, [0, 1], [0, 0]))
        self.assertEqual(walker.go(9), [6, 4])
        walker.back()
        self.assertIs(refusal_of(walker.back), NothingLeft)
        self.assertEqual(told_by(walker), (1, [0, 1], [0, 0]))

    def test_two_thousand_goings_and_as_many_back(self):
        plays = mixed(5, 12, 0, 30)
        row = mixed(6, 2000, -500, 500)
        walker = Walker(plays, 0, [0] * 12)
        for many, place in enumerate(row):
            walker.go(place)
            if many % 250 == 0:
                self.assertEqual(told_by(walker), plain_told(plays, 0, [0] * 12, row[:many + 1]))
        self.assertEqual(told_by(walker), plain_told(plays, 0, [0] * 12, row))
        for many in reversed(range(2000)):
            walker.back()
            if many % 250 == 0:
                self.assertEqual(told_by(walker), plain_told(plays, 0, [0] * 12, row[:many]))
        self.assertIs(refusal_of(walker.back), NothingLeft)


class OwnThings(unittest.TestCase):
    def test_told_lists_changed_change_nothing(self):
        walker = Walker([3, 2], 0, [0, 0])
        for place in (9, -4, -4):
            told = walker.go(place)
            expected = told_by(walker)
            for things in (told, walker.wheels(), walker.ways()):
                things[0] += 1000
                things.append(77)
                things.reverse()
            self.assertEqual(told_by(walker), expected)
        for many in (2, 1, 0):
            walker.back()
            for things in (walker.wheels(), walker.ways()):
                things.clear()
            self.assertEqual(told_by(walker), plain_told([3, 2], 0, [0, 0], [9, -4, -4][:many]))

    def test_lists_told_earlier_stay_as_they_were(self):
        walker = Walker([3, 2], 0, [0, 0])
        first, ways = walker.go(9), walker.ways()
        walker.go(-9)
        walker.back()
        walker.go(2)
        self.assertEqual((first, ways), ([6, 4], [6, 4]))

    def test_lists_handed_in_changed_afterwards_change_nothing(self):
        plays, wheels = [3, 2], [1, 0]
        walker = Walker(plays, 0, wheels)
        walker.go(9)
        plays[0] = 99
        plays.append(5)
        wheels[1] = 50
        wheels.clear()
        self.assertEqual(told_by(walker), plain_told([3, 2], 0, [1, 0], [9]))
        walker.go(-20)
        self.assertEqual(told_by(walker), plain_told([3, 2], 0, [1, 0], [9, -20]))
        walker.back()
        walker.back()
        self.assertEqual(told_by(walker), (0, [1, 0], [0, 0]))

    def test_what_is_handed_in_is_not_changed(self):
        plays, wheels = [3, 2], [1, 0]
        gone(Walker(plays, 0, wheels), [9, -9, 4]).back()
        self.assertEqual((plays, wheels), ([3, 2], [1, 0]))

    def test_two_walkers_of_the_same_lists_go_by_themselves(self):
        plays, wheels = [3, 2], [1, 0]
        one, other = Walker(plays, 0, wheels), Walker(plays, 0, wheels)
        gone(one, [9, -9])
        self.assertEqual(told_by(other), (0, [1, 0], [0, 0]))
        self.assertIs(refusal_of(other.back), NothingLeft)
        one.back()
        self.assertEqual(told_by(one), plain_told([3, 2], 0, [1, 0], [9]))


class Refusals(unittest.TestCase):
    def test_no_train_ahead_of_no_stand(self):
        for plays in NO_TRAINS:
            for wheels in ([], [0], [0] * len(plays), [99] * len(plays)):
                self.assertIs(refusal_of(Walker, plays, 0, wheels), NoTrain, plays)

    def test_no_stand(self):
        for handle, wheels in NO_STANDS:
            self.assertIs(refusal_of(Walker, [3, 2], handle, wheels), NoStand, (handle, wheels))
        self.assertIsNone(refusal_of(Walker, [3, 2], 0, [3, 5]))
        self.assertIsNone(refusal_of(Walker, [0] * 12, SIXTY, [SIXTY] * 12))


if __name__ == "__main__":
    unittest.main()
