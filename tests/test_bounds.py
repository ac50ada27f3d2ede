"""Ranges and stands where the handle is kept within bounds [2, 6, 29, 30]."""

import copy
import unittest

from lugtrain.bounds import ranges_of, stands_within
from lugtrain.errors import NoStand, NoTrain, TooMany
from lugtrain.trains import is_stand, run_of, turned
from reckoning import NO_STANDS, NO_TRAINS, SIXTY, a_stand, all_wheels, is_whole, mixed, refusal_of

ASKED = (ranges_of, stands_within)


def plain_stands(plays, handle, wheels, low, high, most=SIXTY):
    """All stands, by going on from each to each place within the bounds; no more of them behind most."""
    found = {(handle, tuple(wheels))}
    edge = list(found)
    while edge and len(found) <= most:
        at, places = edge.pop()
        for place in range(low, high + 1):
            stand = (place, tuple(turned(plays, at, list(places), place)))
            if stand not in found:
                found.add(stand)
                edge.append(stand)
    return sorted(found)


def plain_ranges(stands):
    columns = list(zip(*[wheels for handle, wheels in stands]))
    return [(min(column), max(column)) for column in columns]


def small_ones():
    for plays in ([0], [1], [2], [3], [1, 1], [2, 1], [0, 2], [1, 0, 1], [1, 1, 1]):
        for wheels in all_wheels(plays, 0):
            for low in range(-4, 1):
                for high in (0, 1, 3, 4):
                    yield plays, 0, wheels, low, high


def drawn_ones(many):
    """Bounded stands of 1 to 12 wheels, of small and of great numbers, the handle at an end at times."""
    for seed in range(many):
        most = (3, 10, 100, SIXTY)[seed % 4]
        plays = mixed(seed, 1 + seed // 4 % 12, 0, most)
        handle, wheels = a_stand(seed, plays, -most, most)
        low, high = handle - mixed(seed + 1, 1, 0, most)[0], handle + mixed(seed + 2, 1, 0, most)[0]
        yield plays, handle, wheels, low if seed % 5 else handle, high if seed % 7 else handle


class Ranges(unittest.TestCase):
    def test_written_ones(self):
        self.assertEqual(ranges_of([3, 2], 0, [0, 0], -9, 9), [(-6, 6), (-4, 4)])
        self.assertEqual(ranges_of([3, 2], 0, [0, 0], 0, 9), [(0, 6), (0, 4)])
        self.assertEqual(ranges_of([3, 2], 0, [0, 0], -3, 5), [(0, 2), (0, 0)])
        self.assertEqual(ranges_of([3, 2], 0, [3, 5], -9, 9), [(-6, 6), (-4, 5)])
        self.assertEqual(ranges_of([3, 2], 0, [-3, -5], -1, 1), [(-3, -2), (-5, -4)])
        self.assertEqual(ranges_of([0], 4, [4], 2, 8), [(2, 8)])

    def test_low_and_high_alike(self):
        for seed in range(24):
            plays = mixed(seed, 1 + seed % 12, 0, 9)
            handle, wheels = a_stand(seed, plays, -20, 20)
            self.assertEqual(ranges_of(plays, handle, wheels, handle, handle), [(at, at) for at in wheels])

    def test_small_ones_against_all_goings(self):
        for bounded in small_ones():
            self.assertEqual(ranges_of(*bounded), plain_ranges(plain_stands(*bounded)), bounded)

    def test_great_ones_are_come_to_and_never_left(self):
        for plays, handle, wheels, low, high in drawn_ones(240):
            told = ranges_of(plays, handle, wheels, low, high)
            lows, highs = turned(plays, handle, wheels, low), turned(plays, handle, wheels, high)
            self.assertEqual([least for least, greatest in told], [min(pair) for pair in zip(wheels, lows)])
            self.assertEqual([greatest for least, greatest in told], [max(pair) for pair in zip(wheels, highs)])
            for places in run_of(plays, handle, wheels, mixed(len(plays), 60, low, high)):
                self.assertTrue(all(least <= at <= greatest for at, (least, greatest) in zip(places, told)))

    def test_twelve_wheels_with_numbers_of_sixty_figures(self):
        play = 10 ** 58
        told = ranges_of([play] * 12, 0, [0] * 12, -SIXTY, SIXTY)
        self.assertEqual(told, [(play * many - SIXTY, SIXTY - play * many) for many in range(1, 13)])
        self.assertEqual(ranges_of([SIXTY] * 12, 0, [0] * 12, -SIXTY, SIXTY), [(0, 0)] * 12)

    def test_kinds(self):
        told = ranges_of([3, 2, 0], 0, [0, 0, 0], -9, 9)
        self.assertIs(told.__class__, list)
        for pair in told:
            self.assertIs(pair.__class__, tuple)
            self.assertTrue(len(pair) == 2 and all(is_whole(place) for place in pair))


class Stands(unittest.TestCase):
    def test_written_ones(self):
        self.assertEqual(stands_within([1], 0, [0], -1, 1), [(-1, (0,)), (0, (0,)), (1, (0,))])
        self.assertEqual(stands_within([1], 0, [1], -1, 1), [(-1, (0,)), (0, (0,)), (0, (1,)), (1, (0,)), (1, (1,))])
        self.assertEqual(stands_within([0, 0], 5, [5, 5], 4, 6), [(4, (4, 4)), (5, (5, 5)), (6, (6, 6))])

    def test_low_and_high_alike(self):
        for seed in range(24):
            plays = mixed(seed, 1 + seed % 12, 0, 9)
            handle, wheels = a_stand(seed, plays, -20, 20)
            self.assertEqual(stands_within(plays, handle, wheels, handle, handle), [(handle, tuple(wheels))])

    def test_small_ones_against_all_goings(self):
        for bounded in small_ones():
            self.assertEqual(stands_within(*bounded), plain_stands(*bounded), bounded)

    def test_drawn_ones_against_all_goings(self):
        told_all = 0
        for plays, handle, wheels, low, high in drawn_ones(160):
            if high - low > 25:
                continue
            if refusal_of(stands_within, plays, handle, wheels, low, high) is None:
                told = stands_within(plays, handle, wheels, low, high)
                self.assertEqual(told, plain_stands(plays, handle, wheels, low, high))
                self.assertEqual(ranges_of(plays, handle, wheels, low, high), plain_ranges(told))
                told_all += len(told) > 20
        self.assertGreater(told_all, 10)

    def test_great_numbers(self):
        far = SIXTY - 5
        told = stands_within([1, 1], far, [far, far], far - 2, far + 2)
        near = stands_within([1, 1], 0, [0, 0], -2, 2)
        self.assertEqual(told, [(at + far, (one + far, other + far)) for at, (one, other) in near])
        self.assertEqual(len(stands_within([SIXTY] * 12, 0, [SIXTY] * 12, 0, 9)), 10)

    def test_just_500_and_more(self):
        self.assertEqual(stands_within([0], 0, [0], 0, 499), [(at, (at,)) for at in range(500)])
        self.assertEqual(len(stands_within([0], 250, [250], 0, 499)), 500)
        self.assertIs(refusal_of(stands_within, [0], 0, [0], 0, 500), TooMany)
        self.assertIs(refusal_of(stands_within, [0], 250, [250], 0, 500), TooMany)
        self.assertEqual(len(stands_within([10 ** 9], 0, [0], -250, 249)), 500)
        self.assertIs(refusal_of(stands_within, [10 ** 9], 0, [0], -250, 250), TooMany)

    def test_500_by_several_wheels(self):
        # Of bounds from narrow to wide: told up to 500 stands, refused from 501 on, by the count of all goings.
        sides = []
        for plays in ([1, 1], [2, 3], [1, 2, 1], [1] * 5, [4]):
            for high in range(1, 24):
                bounded = (plays, 0, [0] * len(plays), -high, high)
                refusal = refusal_of(stands_within, *bounded)
                many = len(plain_stands(*bounded, most=500))
                self.assertIs(refusal, TooMany if many > 500 else None, bounded)
                sides.append(refusal)
        self.assertEqual(set(sides), {None, TooMany})

    def test_far_too_many_are_refused_soon(self):
        self.assertIs(refusal_of(stands_within, [0], 0, [0], -SIXTY, SIXTY), TooMany)
        self.assertIs(refusal_of(stands_within, [SIXTY] * 12, 0, [0] * 12, -SIXTY, SIXTY), TooMany)
        self.assertIs(refusal_of(stands_within, [1] * 12, 0, [0] * 12, 0, 100), TooMany)

    def test_kinds(self):
        told = stands_within([2, 1], 0, [0, 0], -4, 4)
        self.assertIs(told.__class__, list)
        for handle, wheels in told:
            self.assertIs(wheels.__class__, tuple)
            self.assertTrue(is_whole(handle) and all(is_whole(at) for at in wheels))
            self.assertTrue(is_stand([2, 1], handle, list(wheels)))
        self.assertTrue(all(stand.__class__ is tuple for stand in told))
        self.assertEqual(told, sorted(set(told)))
        self.assertIn((0, (0, 0)), told)


class OwnThings(unittest.TestCase):
    def test_what_is_handed_in_is_not_changed_and_told_lists_are_new(self):
        things = ([2, 1], 0, [1, 0], -4, 4)
        kept = copy.deepcopy(things)
        for asked in ASKED:
            told = asked(*things)
            expected = list(told)
            told.clear()
            self.assertEqual(asked(*things), expected)
            self.assertEqual(things, kept)


class Refusals(unittest.TestCase):
    def test_a_handle_beyond_the_bounds(self):
        for low, high in ((1, 9), (1, 1), (-9, -1), (-1, -1), (SIXTY, SIXTY), (-SIXTY, -1)):
            for asked in ASKED:
                self.assertIs(refusal_of(asked, [3, 2], 0, [0, 0], low, high), NoStand, (low, high))
        for low, high in ((0, 9), (-9, 0), (0, 0)):
            for asked in ASKED:
                self.assertIsNone(refusal_of(asked, [3, 2], 0, [0, 0], low, high), (low, high))

    def test_a_low_above_the_high(self):
        for low, high in ((1, 0), (0, -1), (1, -1), (9, -9), (9, 8), (-8, -9), (SIXTY, -SIXTY)):
            for asked in ASKED:
                self.assertIs(refusal_of(asked, [3, 2], 0, [0, 0], low, high), NoStand, (low, high))

    def test_no_train_ahead_of_all(self):
        for plays in NO_TRAINS:
            for wheels in ([], [0], [0] * len(plays), [99] * len(plays)):
                for low, high in ((0, 0), (5, 9), (9, 5), (-SIXTY, SIXTY)):
                    for asked in ASKED:
                        self.assertIs(refusal_of(asked, plays, 0, wheels, low, high), NoTrain, plays)

    def test_no_stand(self):
        for handle, wheels in NO_STANDS:
            for low, high in ((handle, handle), (handle - 5, handle + 5), (9, 5), (-SIXTY, SIXTY)):
                for asked in ASKED:
                    self.assertIs(refusal_of(asked, [3, 2], handle, wheels, low, high), NoStand, (handle, wheels))


if __name__ == "__main__":
    unittest.main()
