"""The way of a round, and the best round [2, 3, 6, 33, 34]."""

import copy
import itertools
import unittest

from lugtrain.errands import least_of, least_row
from lugtrain.errors import NoStand, NoTrain
from lugtrain.rounds import best_round, round_way
from lugtrain.walkers import Walker
from reckoning import (
    NO_STANDS, NO_TRAINS, SIXTY, a_stand, all_wheels, is_places, is_whole, mixed, plain_way, refusal_of, steps_to_all,
)

PLAYS = [3, 2]
ASKED = (round_way, best_round)


def plain_round(plays, handle, wheels, stands):
    """The sum of the least ways from each to the next one."""
    way = 0
    for end, goal in stands:
        way += least_of(plays, handle, wheels, end, goal)
        handle, wheels = end, goal
    return way


def plain_best(plays, handle, wheels, stands):
    """All orders tried: the least way, and the first order of it."""
    numbered = dict(enumerate(stands))
    numbered["first"] = (handle, wheels)
    ways = {(at, to): least_of(plays, *numbered[at], *numbered[to]) for at in numbered for to in numbered}
    tried = []
    for order in itertools.permutations(range(len(stands))):
        tried.append((sum(ways[leg] for leg in zip(("first",) + order, order)), list(order)))
    least = min(way for way, order in tried)
    return sorted(order for way, order in tried if way == least)[0], least


def drawn_rounds(many, most_stands):
    """Trains of 1 to 12 wheels, stands, and none to so many stands to come to, alike ones among them."""
    for seed in range(many):
        most = (2, 9, 100, SIXTY)[seed % 4]
        plays = mixed(seed, 1 + seed % 12, 0, most // 3)
        handle, wheels = a_stand(seed, plays, -most, most)
        stands = [a_stand(seed * 10 + number, plays, -most, most) for number in range(seed % (most_stands + 1))]
        if seed % 3 == 0 and len(stands) > 2:
            stands[-1] = copy.deepcopy(stands[0])
        if seed % 7 == 0 and len(stands) > 1:
            stands[1] = (handle, list(wheels))
        yield plays, handle, wheels, stands


class RoundWay(unittest.TestCase):
    def test_without_stands(self):
        self.assertEqual(round_way(PLAYS, 0, [0, 0], []), 0)

    def test_written_ones(self):
        self.assertEqual(round_way(PLAYS, 0, [0, 0], [(9, [6, 4])]), 9)
        self.assertEqual(round_way(PLAYS, 0, [0, 0], [(9, [6, 4]), (0, [3, 4])]), 18)
        self.assertEqual(round_way(PLAYS, 0, [0, 0], [(9, [6, 4]), (9, [6, 4]), (8, [6, 4])]), 10)
        self.assertEqual(round_way(PLAYS, 0, [0, 0], [(0, [0, 0])] * 6), 0)
        self.assertEqual(round_way([0], 0, [0], [(5, [5]), (-5, [-5]), (5, [5])]), 25)

    def test_against_the_least_ways_from_each_to_the_next(self):
        for plays, handle, wheels, stands in drawn_rounds(210, 6):
            told = round_way(plays, handle, wheels, stands)
            self.assertTrue(is_whole(told))
            self.assertEqual(told, plain_round(plays, handle, wheels, stands))

    def test_none_is_shorter_by_steps(self):
        for plays in ([1], [1, 1], [2, 1]):
            ends = [(end, wheels) for end in (-1, 0, 2) for wheels in all_wheels(plays, end)]
            steps = {(end, tuple(wheels)): steps_to_all(plays, end, wheels, 30) for end, wheels in ends}
            for seed in range(60):
                numbers = mixed(seed, 1 + seed % 6, 0, len(ends) - 1)
                (handle, wheels), *stands = [ends[number] for number in numbers]
                expected, at = 0, (handle, tuple(wheels))
                for end, goal in stands:
                    expected += steps[at][(end, tuple(goal))]
                    at = (end, tuple(goal))
                self.assertEqual(round_way(plays, handle, wheels, stands), expected)

    def test_the_order_counts(self):
        there, back = [(9, [6, 4]), (0, [0, 0])], [(0, [0, 0]), (9, [6, 4])]
        self.assertEqual(round_way(PLAYS, 0, [0, 0], back), 9)
        self.assertGreater(round_way(PLAYS, 0, [0, 0], there), 9)


class BestRound(unittest.TestCase):
    def test_without_stands(self):
        self.assertEqual(best_round(PLAYS, 0, [0, 0], []), ([], 0))

    def test_written_ones(self):
        self.assertEqual(best_round(PLAYS, 0, [0, 0], [(9, [6, 4])]), ([0], 9))
        self.assertEqual(best_round(PLAYS, 0, [0, 0], [(0, [3, 4]), (9, [6, 4])]), ([1, 0], 18))
        self.assertEqual(best_round([0], 0, [0], [(5, [5]), (-4, [-4]), (6, [6]), (1, [1])]), ([1, 3, 0, 2], 14))

    def test_of_several_orders_the_first_one(self):
        self.assertEqual(best_round([0], 0, [0], [(5, [5]), (-5, [-5])]), ([0, 1], 15))
        self.assertEqual(best_round([0], 0, [0], [(-5, [-5]), (5, [5])]), ([0, 1], 15))
        self.assertEqual(best_round(PLAYS, 0, [0, 0], [(9, [6, 4])] * 6), ([0, 1, 2, 3, 4, 5], 9))
        self.assertEqual(best_round([0], 0, [0], [(9, [9]), (1, [1]), (9, [9]), (1, [1])]), ([1, 3, 0, 2], 9))
        self.assertEqual(best_round([0], 0, [0], [(2, [2]), (-2, [-2]), (2, [2]), (-2, [-2])]), ([0, 2, 1, 3], 6))
        self.assertEqual(best_round([0], 5, [5], [(7, [7]), (5, [5]), (3, [3]), (5, [5])]), ([0, 1, 3, 2], 6))

    def test_against_all_orders(self):
        lengths = []
        for plays, handle, wheels, stands in drawn_rounds(210, 6):
            self.assertEqual(best_round(plays, handle, wheels, stands), plain_best(plays, handle, wheels, stands))
            lengths.append(len(stands))
        self.assertEqual([lengths.count(many) for many in range(7)], [30] * 7)

    def test_no_order_is_gone_by_a_lesser_way(self):
        for plays, handle, wheels, stands in drawn_rounds(35, 4):
            order, way = best_round(plays, handle, wheels, stands)
            for other in itertools.permutations(stands):
                self.assertLessEqual(way, round_way(plays, handle, wheels, list(other)))
            self.assertEqual(way, round_way(plays, handle, wheels, [stands[number] for number in order]))

    def test_a_walker_comes_to_each_stand_by_the_told_way(self):
        for plays, handle, wheels, stands in drawn_rounds(140, 6):
            order, way = best_round(plays, handle, wheels, stands)
            self.assertEqual(sorted(order), list(range(len(stands))))
            walker = Walker(plays, handle, wheels)
            gone = [handle]
            for end, goal in [stands[number] for number in order]:
                for place in least_row(plays, walker.handle(), walker.wheels(), end, goal):
                    walker.go(place)
                    gone.append(place)
                self.assertEqual((walker.handle(), walker.wheels()), (end, goal))
            self.assertEqual(plain_way(gone), way)

    def test_kinds(self):
        for plays, handle, wheels, stands in drawn_rounds(7, 6):
            told = best_round(plays, handle, wheels, stands)
            self.assertTrue(told.__class__ is tuple and len(told) == 2)
            self.assertTrue(is_places(told[0]) and is_whole(told[1]))

    def test_somewhat_more_than_six_stands(self):
        stands = [(place, [place]) for place in (7, 3, 5, 1, 6, 2, 4)]
        self.assertEqual(best_round([0], 0, [0], stands), ([3, 5, 1, 6, 2, 4, 0], 7))


class OwnThings(unittest.TestCase):
    def test_what_is_handed_in_is_not_changed_and_told_lists_are_new(self):
        things = ([3, 2], 0, [0, 0], [(9, [6, 4]), (0, [3, 4]), (1, [1, 2])])
        kept = copy.deepcopy(things)
        for asked in ASKED:
            asked(*things)
            self.assertEqual(things, kept)
        expected = copy.deepcopy(best_round(*things))
        best_round(*things)[0].clear()
        self.assertEqual(best_round(*things), expected)


class Refusals(unittest.TestCase):
    def test_no_train_ahead_of_all(self):
        for plays in NO_TRAINS:
            for wheels in ([], [0], [0] * len(plays), [99] * len(plays)):
                for stands in ([], [(0, wheels)], [(0, [0] * len(plays))], [(0, [99])]):
                    for asked in ASKED:
                        self.assertIs(refusal_of(asked, plays, 0, wheels, stands), NoTrain, plays)

    def test_no_stand(self):
        for handle, wheels in NO_STANDS:
            for asked in ASKED:
                self.assertIs(refusal_of(asked, PLAYS, handle, wheels, []), NoStand, (handle, wheels))
                self.assertIs(refusal_of(asked, PLAYS, handle, wheels, [(0, [0, 0])]), NoStand, (handle, wheels))
                for at in range(4):
                    stands = [(0, [0, 0]), (9, [6, 4]), (0, [3, 4])]
                    stands.insert(at, (handle, wheels))
                    self.assertIs(refusal_of(asked, PLAYS, 0, [0, 0], stands), NoStand, stands)

    def test_at_the_ends_of_the_plays_nothing_is_refused(self):
        for asked in ASKED:
            self.assertIsNone(refusal_of(asked, PLAYS, 0, [3, 5], [(0, [-3, -5]), (SIXTY, [SIXTY, SIXTY])]))


if __name__ == "__main__":
    unittest.main()
