"""Pieces grabbed and moved, rows of grabs [2, 6, 27, 28]."""

import copy
import unittest

from lugtrain.errors import NoPiece, NoStand, NoTrain
from lugtrain.grabs import grabbed, grabs_of
from lugtrain.trains import is_stand, turned
from reckoning import (
    NO_STANDS, NO_TRAINS, SIXTY, a_stand, all_wheels, is_places, is_whole, mixed, plain_grabbed, refusal_of,
)


def is_stand_told(thing):
    return thing.__class__ is tuple and len(thing) == 2 and is_whole(thing[0]) and is_places(thing[1])


class Grabbed(unittest.TestCase):
    def test_written_ones(self):
        self.assertEqual(grabbed([3, 2], 0, [0, 0], -1, 9), (9, [6, 4]))
        self.assertEqual(grabbed([3, 2], 0, [0, 0], 0, 9), (6, [9, 7]))
        self.assertEqual(grabbed([3, 2], 0, [0, 0], 1, 9), (4, [7, 9]))
        self.assertEqual(grabbed([3, 2], 0, [0, 0], 1, -9), (-4, [-7, -9]))
        self.assertEqual(grabbed([3, 2], 0, [0, 0], 1, 2), (0, [0, 2]))
        self.assertEqual(grabbed([3, 2], 0, [0, 0], 1, 3), (0, [1, 3]))
        self.assertEqual(grabbed([3, 2], 0, [0, 0], 1, 6), (1, [4, 6]))
        self.assertEqual(grabbed([0], 0, [0], 0, 5), (5, [5]))

    def test_a_piece_ahead_is_dragged_by_the_play_of_the_one_behind(self):
        # The plays are unlike, so that each is seen where it counts.
        plays = [1, 10, 100, 1000]
        self.assertEqual(grabbed(plays, 0, [0, 0, 0, 0], 3, 5000), (3889, [3890, 3900, 4000, 5000]))
        self.assertEqual(grabbed(plays, 0, [0, 0, 0, 0], 1, 5000), (4989, [4990, 5000, 4900, 3900]))
        self.assertEqual(grabbed(plays, 0, [0, 0, 0, 0], 0, -5000), (-4999, [-5000, -4990, -4890, -3890]))

    def test_where_it_lies_nothing_moves(self):
        for seed in range(24):
            plays = mixed(seed, 1 + seed % 12, 0, 9)
            handle, wheels = a_stand(seed, plays, -20, 20)
            for piece, place in enumerate([handle] + wheels, start=-1):
                self.assertEqual(grabbed(plays, handle, wheels, piece, place), (handle, wheels))

    def test_the_handle_grabbed_is_the_handle_turned(self):
        for seed in range(60):
            most = (3, 20, SIXTY)[seed % 3]
            plays = mixed(seed, 1 + seed % 12, 0, most)
            handle, wheels = a_stand(seed, plays, -most, most)
            place = mixed(seed + 7, 1, -3 * most, 3 * most)[0]
            self.assertEqual(grabbed(plays, handle, wheels, -1, place), (place, turned(plays, handle, wheels, place)))

    def test_all_small_ones_by_the_words(self):
        for plays in ([0], [2], [1, 1], [2, 0], [0, 1], [1, 2], [1, 0, 1], [1, 1, 1]):
            for wheels in all_wheels(plays, 0):
                for piece in range(-1, len(plays)):
                    for place in range(-5, 6):
                        told = grabbed(plays, 0, wheels, piece, place)
                        self.assertEqual(told, plain_grabbed(plays, 0, wheels, piece, place))
                        self.assertTrue(is_stand(plays, *told))

    def test_each_piece_of_one_to_twelve_wheels(self):
        for seed in range(96):
            most = (2, 9, 300, SIXTY)[seed % 4]
            plays = mixed(seed, 1 + seed % 12, 0, most)
            handle, wheels = a_stand(seed, plays, -most, most)
            for piece in range(-1, len(plays)):
                place = mixed(seed * 13 + piece, 1, -4 * most, 4 * most)[0]
                told = grabbed(plays, handle, wheels, piece, place)
                self.assertEqual(told, plain_grabbed(plays, handle, wheels, piece, place))
                self.assertEqual(([told[0]] + told[1])[piece + 1], place)
                self.assertTrue(is_stand(plays, *told))
                self.assertTrue(is_stand_told(told), told)


class Rows(unittest.TestCase):
    def test_the_stands_behind_each(self):
        self.assertEqual(grabs_of([3, 2], 0, [0, 0], [(1, 9), (-1, 0), (0, 0)]),
                         [(4, [7, 9]), (0, [3, 5]), (0, [0, 2])])
        self.assertEqual(grabs_of([3, 2], 5, [4, 4], []), [])
        self.assertEqual(grabs_of([3, 2], 0, [0, 0], [(1, 9)]), [(4, [7, 9])])

    def test_drawn_rows(self):
        for seed in range(60):
            most = (2, 9, 300, SIXTY)[seed % 4]
            plays = mixed(seed, 1 + seed % 12, 0, most)
            handle, wheels = a_stand(seed, plays, -most, most)
            pieces = mixed(seed + 500, 40, -1, len(plays) - 1)
            row = list(zip(pieces, mixed(seed + 600, 40, -4 * most, 4 * most)))
            told = grabs_of(plays, handle, wheels, row)
            self.assertIs(told.__class__, list)
            expected = []
            for piece, place in row:
                handle, wheels = plain_grabbed(plays, handle, wheels, piece, place)
                expected.append((handle, wheels))
            self.assertEqual(told, expected)
            self.assertTrue(all(is_stand_told(stand) for stand in told))

    def test_two_thousand_grabs(self):
        plays = mixed(3, 12, 0, 30)
        row = list(zip(mixed(4, 2000, -1, 11), mixed(5, 2000, -500, 500)))
        told = grabs_of(plays, 0, [0] * 12, row)
        self.assertEqual(len(told), 2000)
        for many in (1, 2, 1000, 1999):
            self.assertEqual(told[many], grabbed(plays, *told[many - 1], *row[many]))


class OwnThings(unittest.TestCase):
    def test_what_is_handed_in_is_not_changed(self):
        things = ([3, 2], 0, [1, 0], [(1, 9), (-1, -9), (0, 3)])
        kept = copy.deepcopy(things)
        grabs_of(*things)
        for piece in (-1, 0, 1):
            grabbed(*things[:3], piece, 9)
        self.assertEqual(things, kept)

    def test_told_lists_are_new_ones(self):
        plays, wheels = [3, 2], [1, 0]
        for piece, place in ((-1, 0), (0, 1), (1, 0), (1, 9)):
            told = grabbed(plays, 0, wheels, piece, place)
            self.assertIsNot(told[1], wheels)
            told[1].append(77)
            self.assertEqual((plays, wheels), ([3, 2], [1, 0]))
        # Grabs that move nothing, so that one list could be told several times.
        stands = grabs_of(plays, 0, wheels, [(-1, 0), (-1, 0), (0, 1), (1, 0)])
        self.assertEqual(len({id(places) for handle, places in stands} | {id(wheels)}), 5)
        stands[0][1].append(77)
        self.assertEqual(stands[1:], [(0, [1, 0])] * 3)
        stands.clear()
        self.assertEqual(len(grabs_of(plays, 0, wheels, [(-1, 0)])), 1)


class Refusals(unittest.TestCase):
    def test_no_piece(self):
        for many in (1, 2, 5, 12):
            plays, wheels = [3] * many, [0] * many
            for piece in (-2, -3, -many - 1, -many - 2, many, many + 1, 99, -99, SIXTY, -SIXTY):
                self.assertIs(refusal_of(grabbed, plays, 0, wheels, piece, 5), NoPiece, (many, piece))
                self.assertIs(refusal_of(grabs_of, plays, 0, wheels, [(piece, 5)]), NoPiece, (many, piece))
            for piece in range(-1, many):
                self.assertIsNone(refusal_of(grabbed, plays, 0, wheels, piece, 5), (many, piece))

    def test_no_piece_at_any_place_of_a_row(self):
        for piece in (-2, 2, 3, SIXTY, -SIXTY):
            for at in range(5):
                row = [(0, 5), (-1, 3), (1, 0), (0, -9)]
                row.insert(at, (piece, 0))
                self.assertIs(refusal_of(grabs_of, [3, 2], 0, [0, 0], row), NoPiece, row)

    def test_no_train_ahead_of_all(self):
        for plays in NO_TRAINS:
            for wheels in ([], [0], [0] * len(plays), [99] * len(plays)):
                for piece in (-2, -1, 0, 99):
                    self.assertIs(refusal_of(grabbed, plays, 0, wheels, piece, 5), NoTrain, plays)
                    self.assertIs(refusal_of(grabs_of, plays, 0, wheels, [(piece, 5)]), NoTrain, plays)
                self.assertIs(refusal_of(grabs_of, plays, 0, wheels, []), NoTrain, plays)

    def test_no_stand_ahead_of_no_piece(self):
        for handle, wheels in NO_STANDS:
            for piece in (-2, -1, 0, 1, 2, 99):
                self.assertIs(refusal_of(grabbed, [3, 2], handle, wheels, piece, 5), NoStand, (handle, wheels))
                self.assertIs(refusal_of(grabs_of, [3, 2], handle, wheels, [(piece, 5)]), NoStand, (handle, wheels))
            self.assertIs(refusal_of(grabs_of, [3, 2], handle, wheels, []), NoStand, (handle, wheels))


if __name__ == "__main__":
    unittest.main()
