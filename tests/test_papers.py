"""Musts, their places, papers and what they weigh [2, 13, 14, 15]."""

import copy
import itertools
import unittest

from lugtrain.errors import NoPaper, NoStand, NoTrain
from lugtrain.papers import is_paper, must_place, weight_of
from lugtrain.trains import run_of
from reckoning import (
    SIXTY, a_stand, all_rows, all_wheels, is_whole, mixed, plain_depths, plain_follows, plain_pieces, plain_way,
    refusal_of,
)

PLAYS = [3, 2]
# Wheel 1 must go up to 2, beyond which wheel 0 and the handle must come down and up again.
ERRAND = (PLAYS, 0, [0, 0], 0, [1, 2])


def plain_is_paper(plays, handle, wheels, end, goal, thing):
    """Whether it is a paper, by the document's words."""
    firsts, goals = plain_pieces(handle, wheels), plain_pieces(end, goal)
    for wheel, side in thing:
        if wheel not in goals or side not in (1, -1):
            return False
    if thing:
        wheel, side = thing[0]
        if side == 1 and not goals[wheel] > firsts[wheel]:
            return False
        if side == -1 and not goals[wheel] < firsts[wheel]:
            return False
    return all(plain_follows(plays, end, goal, thing[at - 1], thing[at]) for at in range(1, len(thing)))


def plain_place(plays, end, goal, must):
    return plain_pieces(end, goal)[must[0]] + plain_depths(plays)[must[0]] * must[1]


def small_errands():
    """Errands of one and two wheels, each from a handle at 0."""
    for plays in ([0], [2], [0, 1], [1, 0], [1, 1], [2, 1]):
        for wheels in all_wheels(plays, 0):
            for end in (-2, 0, 1):
                for goal in all_wheels(plays, end):
                    yield plays, 0, wheels, end, goal


class MustPlace(unittest.TestCase):
    def test_of_a_wheel_it_is_its_depth_beyond_its_goal_on_that_side(self):
        self.assertEqual(must_place(PLAYS, 0, [1, 2], (0, 1)), 4)
        self.assertEqual(must_place(PLAYS, 0, [1, 2], (0, -1)), -2)
        self.assertEqual(must_place(PLAYS, 0, [1, 2], (1, 1)), 7)
        self.assertEqual(must_place(PLAYS, 0, [1, 2], (1, -1)), -3)

    def test_of_the_handle_it_is_the_end(self):
        for end in (-3, 0, 4):
            self.assertEqual(must_place(PLAYS, end, [end + 1, end + 2], (-1, 1)), end)
            self.assertEqual(must_place(PLAYS, end, [end + 1, end + 2], (-1, -1)), end)

    def test_by_the_words_for_all_wheels(self):
        for seed in range(100):
            plays = mixed(seed, 1 + seed % 12, 0, 9)
            end, goal = a_stand(seed, plays, -30, 30)
            for must in itertools.product(range(-1, len(plays)), (1, -1)):
                told = must_place(plays, end, goal, must)
                self.assertEqual(told, plain_place(plays, end, goal, must), (plays, end, goal, must))
                self.assertTrue(is_whole(told))

    def test_numbers_of_sixty_figures(self):
        plays = [SIXTY] * 12
        goal = [SIXTY] * 12
        self.assertEqual(must_place(plays, 0, goal, (11, 1)), 13 * SIXTY)
        self.assertEqual(must_place(plays, 0, goal, (11, -1)), -11 * SIXTY)
        self.assertEqual(must_place(plays, 0, goal, (-1, -1)), 0)

    def test_no_train_and_no_stand(self):
        self.assertIs(refusal_of(must_place, [], 0, [], (-1, 1)), NoTrain)
        self.assertIs(refusal_of(must_place, [3, -1], 0, [50, 0], (-1, 1)), NoTrain)
        self.assertIs(refusal_of(must_place, [1] * 13, 0, [0] * 13, (0, 1)), NoTrain)
        self.assertIs(refusal_of(must_place, PLAYS, 0, [4, 4], (0, 1)), NoStand)
        self.assertIs(refusal_of(must_place, PLAYS, 0, [0], (0, 1)), NoStand)
        self.assertIs(refusal_of(must_place, PLAYS, 0, [0, 0, 0], (-1, 1)), NoStand)


class IsPaper(unittest.TestCase):
    def test_without_musts(self):
        self.assertIs(is_paper(*ERRAND, []), True)
        self.assertIs(is_paper(PLAYS, 0, [0, 0], 0, [0, 0], []), True)

    def test_one_must_behind_the_other(self):
        self.assertIs(is_paper(*ERRAND, [(1, 1)]), True)
        self.assertIs(is_paper(*ERRAND, [(1, 1), (0, -1)]), True)
        self.assertIs(is_paper(*ERRAND, [(1, 1), (0, -1), (-1, 1)]), True)
        self.assertIs(is_paper(*ERRAND, [(1, 1), (-1, -1)]), True)
        self.assertIs(is_paper(*ERRAND, [(0, 1), (-1, -1)]), True)

    def test_wheels_that_are_none(self):
        for wheel in (-SIXTY, -3, -2, 2, 3, 11, SIXTY):
            for side in (1, -1):
                self.assertIs(is_paper(*ERRAND, [(wheel, side)]), False)
                self.assertIs(is_paper(*ERRAND, [(1, 1), (wheel, -1)]), False)
                self.assertIs(is_paper(*ERRAND, [(1, 1), (0, -1), (wheel, side)]), False)

    def test_sides_that_are_none(self):
        for side in (-SIXTY, -2, 0, 2, 3, SIXTY):
            for wheel in (-1, 0, 1):
                self.assertIs(is_paper(*ERRAND, [(wheel, side)]), False)
                self.assertIs(is_paper(PLAYS, 0, [0, 0], 0, [0, 0], [(wheel, side)]), False)
            self.assertIs(is_paper(*ERRAND, [(1, 1), (0, side)]), False)
            self.assertIs(is_paper(*ERRAND, [(1, side), (0, -side)]), False)

    def test_sides_that_do_not_change(self):
        self.assertIs(is_paper(*ERRAND, [(1, 1), (0, 1)]), False)
        self.assertIs(is_paper(*ERRAND, [(1, 1), (1, 1)]), False)
        self.assertIs(is_paper(*ERRAND, [(1, 1), (0, -1), (-1, -1)]), False)

    def test_a_first_must_whose_wheel_need_not_move_that_way(self):
        self.assertIs(is_paper(*ERRAND, [(1, -1)]), False)
        self.assertIs(is_paper(*ERRAND, [(0, -1)]), False)
        self.assertIs(is_paper(*ERRAND, [(-1, 1)]), False)
        self.assertIs(is_paper(*ERRAND, [(-1, -1)]), False)
        # Wheel 0 stays, so it is no first must on either side, though a later one.
        errand = (PLAYS, 0, [0, 0], 0, [0, 2])
        self.assertIs(is_paper(*errand, [(0, 1)]), False)
        self.assertIs(is_paper(*errand, [(0, -1)]), False)
        self.assertIs(is_paper(*errand, [(1, 1), (0, -1)]), True)

    def test_the_handle_as_first_must(self):
        self.assertIs(is_paper(PLAYS, 0, [0, 0], 2, [0, 0], [(-1, 1)]), True)
        self.assertIs(is_paper(PLAYS, 0, [0, 0], 2, [0, 0], [(-1, -1)]), False)
        self.assertIs(is_paper(PLAYS, 0, [0, 0], -2, [0, 0], [(-1, -1)]), True)
        self.assertIs(is_paper(PLAYS, 0, [0, 0], -2, [0, 0], [(-1, 1)]), False)

    def test_a_next_wheel_just_at_its_goal_or_one_beyond(self):
        # The handle comes to 6 or beyond for wheel 1, wheel 0 then lies at 3 or above; and likewise below.
        for goal, expected in ((1, True), (2, True), (3, False)):
            errand = (PLAYS, 0, [0, -1], 0, [goal, 1])
            self.assertEqual(must_place(PLAYS, 0, [goal, 1], (1, 1)), 6)
            self.assertIs(is_paper(*errand, [(1, 1), (0, -1)]), expected)
        for goal, expected in ((-1, True), (-2, True), (-3, False)):
            errand = (PLAYS, 0, [0, 1], 0, [goal, -1])
            self.assertEqual(must_place(PLAYS, 0, [goal, -1], (1, -1)), -6)
            self.assertIs(is_paper(*errand, [(1, -1), (0, 1)]), expected)

    def test_a_wheel_behind_is_never_next(self):
        for errand in small_errands():
            for side in (1, -1):
                self.assertIs(is_paper(*errand, [(0, side), (0, -side)]), False)
                if len(errand[0]) == 2:
                    self.assertIs(is_paper(*errand, [(0, side), (1, -side)]), False)
                self.assertIs(is_paper(*errand, [(-1, side), (0, -side)]), False)

    def test_all_small_ones_by_the_words(self):
        musts = list(itertools.product(range(-2, 3), (-1, 0, 1)))
        things = [list(thing) for many in range(3) for thing in itertools.product(musts, repeat=many)]
        for errand in [ERRAND, ([1, 2], 3, [4, 2], 2, [1, 3]), ([2], 0, [1], 0, [-1]), ([0, 0], 5, [5, 5], 4, [4, 4])]:
            for thing in things:
                told = is_paper(*errand, thing)
                self.assertIs(told, plain_is_paper(*errand, thing), (errand, thing))

    def test_small_errands_by_the_words(self):
        musts = list(itertools.product(range(-1, 2), (-1, 1)))
        things = [list(thing) for many in range(4) for thing in itertools.product(musts, repeat=many)]
        for at, errand in enumerate(small_errands()):
            for thing in things[at % 7::7]:
                self.assertIs(is_paper(*errand, thing), plain_is_paper(*errand, thing), (errand, thing))

    def test_a_hundred_musts(self):
        self.assertIs(is_paper(*ERRAND, [(1, 1), (0, -1)] * 50), False)
        self.assertIs(is_paper(*ERRAND, [(0, -1)] * 100), False)
        self.assertIs(is_paper(*ERRAND, [(1, 1), (0, -1), (-1, 1)] + [(0, -1), (1, 1)] * 48), False)


class Weight(unittest.TestCase):
    def test_without_musts(self):
        self.assertEqual(weight_of(*ERRAND, []), 0)
        self.assertEqual(weight_of(PLAYS, 7, [7, 7], 0, [0, 0], []), 0)

    def test_the_way_by_the_musts_places(self):
        self.assertEqual(weight_of(*ERRAND, [(1, 1)]), 7)
        self.assertEqual(weight_of(*ERRAND, [(1, 1), (0, -1)]), 7 + 9)
        self.assertEqual(weight_of(*ERRAND, [(1, 1), (0, -1), (-1, 1)]), 7 + 9 + 2)
        self.assertEqual(weight_of(*ERRAND, [(1, 1), (-1, -1)]), 14)
        self.assertEqual(weight_of(*ERRAND, [(0, 1), (-1, -1)]), 8)
        self.assertEqual(weight_of(PLAYS, 0, [0, 0], -2, [0, 0], [(-1, -1)]), 2)

    def test_it_begins_at_the_handles_first_place(self):
        self.assertEqual(weight_of(PLAYS, 3, [0, 0], 0, [1, 2], [(1, 1)]), 4)
        self.assertEqual(weight_of(PLAYS, -3, [0, 0], 0, [1, 2], [(1, 1)]), 10)

    def test_small_errands_by_the_words(self):
        musts = list(itertools.product(range(-2, 3), (-1, 1)))
        things = [list(thing) for many in range(4) for thing in itertools.product(musts, repeat=many)]
        for at, errand in enumerate(small_errands()):
            plays, handle, wheels, end, goal = errand
            for thing in things[at % 31::31]:
                if plain_is_paper(*errand, thing):
                    way = plain_way([handle] + [plain_place(plays, end, goal, must) for must in thing])
                    told = weight_of(*errand, thing)
                    self.assertEqual(told, way, (errand, thing))
                    self.assertTrue(is_whole(told))
                else:
                    self.assertIs(refusal_of(weight_of, *errand, thing), NoPaper, (errand, thing))

    def test_what_is_no_paper(self):
        for thing in (
            [(-2, 1)], [(2, 1)], [(2, -1)], [(1, 0)], [(1, 2)], [(0, -2)], [(1, -1)], [(-1, 1)], [(1, 1), (0, 1)],
            [(1, 1), (2, -1)], [(1, 1), (-2, -1)], [(1, 1), (0, 0)], [(1, 1), (0, -1), (1, 1)], [(0, 1), (1, -1)],
            [(1, 1), (0, -1)] * 50, [(SIXTY, 1)], [(-SIXTY, 1)], [(1, SIXTY)],
        ):
            self.assertIs(refusal_of(weight_of, *ERRAND, thing), NoPaper, thing)

    def test_numbers_of_sixty_figures(self):
        errand = ([SIXTY, 1], SIXTY, [0, 0], -SIXTY, [0, 1])
        paper = [(1, 1), (-1, -1)]
        self.assertEqual(must_place([SIXTY, 1], -SIXTY, [0, 1], (1, 1)), SIXTY + 2)
        self.assertEqual(weight_of(*errand, paper), 2 + 2 * SIXTY + 2)
        self.assertEqual(weight_of(*errand, [(1, 1), (0, -1)]), 2 + SIXTY + 2 + SIXTY)
        self.assertIs(refusal_of(weight_of, *errand, [(1, 1), (0, -1), (-1, 1)]), NoPaper)

    def test_whoever_does_the_errand_meets_its_musts_in_order(self):
        papers_met = 0
        for plays, wheels in (([1, 1], [0, 0]), ([1, 1], [1, 0]), ([2, 1], [-1, -2]), ([1], [1])):
            musts = list(itertools.product(range(-1, len(plays)), (-1, 1)))
            things = [list(thing) for many in range(1, 4) for thing in itertools.product(musts, repeat=many)]
            for row in all_rows((-5, -2, 1, 3, 6), 3):
                if not row:
                    continue
                goal = run_of(plays, 0, wheels, row)[-1]
                errand = (plays, 0, wheels, row[-1], goal)
                for thing in things:
                    if not is_paper(*errand, thing):
                        continue
                    papers_met += 1
                    when = 0
                    for wheel, side in thing:
                        place = plain_place(plays, row[-1], goal, (wheel, side))
                        while when < len(row) and not row[when] * side >= place * side:
                            when += 1
                    self.assertLess(when, len(row), (errand, thing, row))
                    self.assertLessEqual(weight_of(*errand, thing), plain_way([0] + row), (errand, thing, row))
        self.assertGreater(papers_met, 500)


class Refusals(unittest.TestCase):
    """NoTrain ahead of NoStand ahead of NoPaper."""

    def test_no_train_ahead_of_all(self):
        for plays in ([], [-1], [3, -1], [1] * 13):
            for wheels, goal in (([0] * len(plays), [0] * len(plays)), ([99], [99]), ([], [])):
                for asked in (is_paper, weight_of):
                    for thing in ([], [(5, 5)]):
                        self.assertIs(refusal_of(asked, plays, 0, wheels, 0, goal, thing), NoTrain)

    def test_no_stand_of_the_first_one_or_of_the_goal(self):
        wrong = ([4, 4], [0, 3], [0], [], [0, 0, 0], [SIXTY, 0])
        for asked in (is_paper, weight_of):
            for thing in ([], [(1, 1)], [(5, 5)]):
                for wheels in wrong:
                    self.assertIs(refusal_of(asked, PLAYS, 0, wheels, 0, [0, 0], thing), NoStand)
                    self.assertIs(refusal_of(asked, PLAYS, 0, [0, 0], 0, wheels, thing), NoStand)
                    self.assertIs(refusal_of(asked, PLAYS, 0, wheels, 0, wheels, thing), NoStand)
                self.assertIs(refusal_of(asked, PLAYS, 9, [0, 0], 0, [0, 0], thing), NoStand)
                self.assertIs(refusal_of(asked, PLAYS, 0, [0, 0], -9, [0, 0], thing), NoStand)

    def test_no_paper_is_told_by_is_paper_and_refused_by_weight_of(self):
        self.assertIs(is_paper(*ERRAND, [(5, 5)]), False)
        self.assertIs(refusal_of(weight_of, *ERRAND, [(5, 5)]), NoPaper)


class HandedIn(unittest.TestCase):
    def test_it_stays(self):
        for thing in ([], [(1, 1), (0, -1), (-1, 1)], [(1, 1), (7, -1)]):
            for asked in (is_paper, weight_of):
                things = [[3, 2], 0, [0, 0], 0, [1, 2], thing]
                kept = copy.deepcopy(things)
                refusal_of(asked, *things)
                self.assertEqual(things, kept)
        things = [[3, 2], 0, [1, 2], (1, 1)]
        kept = copy.deepcopy(things)
        must_place(*things)
        self.assertEqual(things, kept)


if __name__ == "__main__":
    unittest.main()
