"""The told paper, the told row and the least way of an errand [2, 3, 13, 16]."""

import copy
import itertools
import unittest

from lugtrain.errands import least_of, least_row, paper_of
from lugtrain.errors import NoStand, NoTrain
from lugtrain.papers import is_paper, must_place, weight_of
from lugtrain.trains import run_of
from reckoning import (
    SIXTY, a_stand, all_wheels, is_places, is_whole, mixed, plain_depths, plain_follows, plain_pieces, plain_way,
    refusal_of, steps_to_all,
)

PLAYS = [3, 2]
ASKED = (paper_of, least_row, least_of)


def plain_paper(plays, handle, wheels, end, goal):
    """The told paper, by the document's words."""
    otherwise = [number for number in range(len(plays)) if wheels[number] != goal[number]]
    if not otherwise:
        if end == handle:
            return []
        return [(-1, 1)] if end > handle else [(-1, -1)]
    last = max(otherwise)
    told = [(last, 1 if goal[last] > wheels[last] else -1)]
    for number in list(reversed(range(last))) + [-1]:
        other_side = {1: -1, -1: 1}[told[-1][1]]
        if plain_follows(plays, end, goal, told[-1], (number, other_side)):
            told.append((number, other_side))
    return told


def plain_row(plays, end, goal, paper):
    return [plain_pieces(end, goal)[wheel] + plain_depths(plays)[wheel] * side for wheel, side in paper]


def drawn_errands(many):
    """Errands of 1 to 12 wheels, of small and of great numbers, in disorder."""
    for seed in range(many):
        most = [2, 5, 40, SIXTY][seed % 4]
        plays = mixed(seed + 5000, 1 + seed // 4 % 12, 0, most)
        handle, wheels = a_stand(seed, plays, -3 * most, 3 * most)
        end, goal = a_stand(seed + 9000, plays, -3 * most, 3 * most)
        if seed % 5 == 0:
            # The last wheels keep their places, where they can.
            goal = run_of(plays, handle, wheels, [end])[-1]
        yield plays, handle, wheels, end, goal


class Told(unittest.TestCase):
    def check(self, errand, paper, row, way):
        self.assertEqual(paper_of(*errand), paper)
        self.assertEqual(least_row(*errand), row)
        self.assertEqual(least_of(*errand), way)

    def test_nothing_otherwise(self):
        self.check((PLAYS, 0, [0, 0], 0, [0, 0]), [], [], 0)
        self.check((PLAYS, 7, [5, 6], 7, [5, 6]), [], [], 0)
        self.check(([SIXTY] * 12, 0, [SIXTY] * 12, 0, [SIXTY] * 12), [], [], 0)

    def test_the_handle_alone_otherwise(self):
        self.check((PLAYS, 0, [0, 0], 2, [0, 0]), [(-1, 1)], [2], 2)
        self.check((PLAYS, 0, [0, 0], -3, [0, 0]), [(-1, -1)], [-3], 3)
        self.check((PLAYS, -3, [0, 1], 3, [0, 1]), [(-1, 1)], [3], 6)
        self.check(([SIXTY], -SIXTY, [0], SIXTY, [0]), [(-1, 1)], [SIXTY], 2 * SIXTY)

    def test_the_last_wheel_then_those_ahead_of_it_then_the_handle(self):
        self.check((PLAYS, 0, [0, 0], 0, [1, 2]), [(1, 1), (0, -1), (-1, 1)], [7, -2, 0], 18)
        self.check((PLAYS, 0, [0, 0], 0, [-1, -2]), [(1, -1), (0, 1), (-1, -1)], [-7, 2, 0], 18)

    def test_a_wheel_that_needs_no_must_is_passed_over(self):
        # Wheel 0 comes to its goal with wheel 1, just the handle must come back.
        self.check((PLAYS, 0, [0, 0], 1, [4, 2]), [(1, 1), (-1, -1)], [7, 1], 13)
        # The handle need not come back either.
        self.check((PLAYS, 0, [0, 0], 7, [4, 2]), [(1, 1)], [7], 7)
        self.check((PLAYS, 0, [0, 0], -7, [-4, -2]), [(1, -1)], [-7], 7)

    def test_wheel_0_alone_otherwise(self):
        self.check((PLAYS, 0, [0, 0], 0, [1, 0]), [(0, 1), (-1, -1)], [4, 0], 8)
        self.check((PLAYS, 0, [0, 0], 4, [1, 0]), [(0, 1)], [4], 4)
        self.check((PLAYS, 0, [0, 0], 0, [-2, 0]), [(0, -1), (-1, 1)], [-5, 0], 10)

    def test_without_play(self):
        self.check(([0, 0], 5, [5, 5], 9, [9, 9]), [(1, 1)], [9], 4)
        self.check(([0, 0], 5, [5, 5], -9, [-9, -9]), [(1, -1)], [-9], 14)
        self.check(([0, 2, 0], 5, [5, 6, 6], 5, [5, 7, 7]), [(2, 1), (0, -1)], [9, 5], 8)

    def test_a_must_for_each_wheel_and_the_handle(self):
        plays = [2] * 12
        paper = [(11, 1)] + [(number, 1 if number % 2 else -1) for number in range(10, -2, -1)]
        wheels = [1 if number % 2 else 0 for number in range(12)]
        self.assertEqual(paper_of(plays, 0, [0] * 12, 0, wheels), paper)
        row = least_row(plays, 0, [0] * 12, 0, wheels)
        self.assertEqual(row, [25, -22, 21, -18, 17, -14, 13, -10, 9, -6, 5, -2, 0])
        self.assertEqual(least_of(plays, 0, [0] * 12, 0, wheels), plain_way([0] + row))

    def test_by_the_words(self):
        for errand in drawn_errands(1500):
            plays, handle, wheels, end, goal = errand
            paper = plain_paper(*errand)
            row = plain_row(plays, end, goal, paper)
            self.check(errand, paper, row, plain_way([handle] + row))

    def test_numbers_of_sixty_figures(self):
        plays = [SIXTY, SIXTY]
        self.check(
            (plays, 0, [0, 0], 0, [1, 2]), [(1, 1), (0, -1), (-1, 1)],
            [2 + 2 * SIXTY, 1 - SIXTY, 0], (2 + 2 * SIXTY) + (1 + 3 * SIXTY) + (SIXTY - 1),
        )

    def test_kinds(self):
        for errand in drawn_errands(48):
            paper = paper_of(*errand)
            self.assertIs(paper.__class__, list)
            for must in paper:
                self.assertIs(must.__class__, tuple)
                self.assertEqual(len(must), 2)
                self.assertTrue(all(is_whole(thing) for thing in must))
            self.assertTrue(is_places(least_row(*errand)))
            self.assertTrue(is_whole(least_of(*errand)))


class Leads(unittest.TestCase):
    """From any stand to any other one the told row leads, and none that does is shorter."""

    def check_leads(self, errand):
        plays, handle, wheels, end, goal = errand
        row = least_row(*errand)
        paper = paper_of(*errand)
        places = ([wheels] + run_of(plays, handle, wheels, row))[-1]
        self.assertEqual(places, goal, errand)
        self.assertEqual(([handle] + row)[-1], end, errand)
        self.assertIs(is_paper(*errand, paper), True, errand)
        self.assertEqual(weight_of(*errand, paper), least_of(*errand), errand)
        self.assertEqual(plain_way([handle] + row), least_of(*errand), errand)
        self.assertEqual(row, [must_place(plays, end, goal, must) for must in paper])

    def test_the_told_row_leads_there_and_the_told_paper_weighs_its_way(self):
        for errand in drawn_errands(1500):
            self.check_leads(errand)

    def test_wheels_0_to_11_each_as_the_last_one_otherwise(self):
        plays = [2, 1, 3, 1, 1, 2, 2, 1, 1, 3, 1, 2]
        seen = []
        for seed in range(40):
            handle, wheels = a_stand(seed, plays, -4, 4)
            for place in range(handle - 25, handle + 26):
                goal = run_of(plays, handle, wheels, [place])[-1]
                errand = (plays, handle, wheels, place, goal)
                self.check_leads(errand)
                seen += [must[0] for must in paper_of(*errand)[:1]]
        self.assertEqual(set(seen), set(range(-1, 12)))

    def test_none_is_shorter_by_steps(self):
        trains = [[0], [1], [2], [0, 0], [1, 0], [0, 1], [1, 1], [2, 1], [1, 2], [1, 1, 1], [0, 1, 1]]
        for plays in trains:
            for wheels in all_wheels(plays, 0):
                goals = [(end, goal) for end in (-3, -1, 0, 2) for goal in all_wheels(plays, end)]
                told = {(end, tuple(goal)): least_of(plays, 0, wheels, end, goal) for end, goal in goals}
                steps = steps_to_all(plays, 0, wheels, max(told.values()))
                for stand in told:
                    self.assertEqual(told[stand], steps[stand], (plays, wheels, stand))

    def test_no_drawn_row_that_leads_there_is_shorter(self):
        for seed, (plays, handle, wheels, end, goal) in enumerate(drawn_errands(800)):
            width = 2 * sum(plays) + 3
            row = mixed(seed + 77, 1 + seed % 9, handle - width, handle + width)
            there = run_of(plays, handle, wheels, row)[-1]
            least = least_of(plays, handle, wheels, row[-1], there)
            self.assertLessEqual(least, plain_way([handle] + row), (plays, handle, wheels, row))
            self.check_leads((plays, handle, wheels, row[-1], there))

    def test_no_paper_weighs_more(self):
        for plays in ([2], [1, 1], [2, 1]):
            musts = list(itertools.product(range(-1, len(plays)), (-1, 1)))
            things = [list(thing) for many in range(4) for thing in itertools.product(musts, repeat=many)]
            for wheels in list(all_wheels(plays, 0))[::2]:
                for goal in all_wheels(plays, 1):
                    errand = (plays, 0, wheels, 1, goal)
                    weights = [weight_of(*errand, thing) for thing in things if is_paper(*errand, thing)]
                    self.assertEqual(max(weights), least_of(*errand), errand)

    def test_the_other_way_about_and_farther_up(self):
        for plays, handle, wheels, end, goal in drawn_errands(200):
            row = least_row(plays, handle, wheels, end, goal)
            turned_about = least_row(plays, -handle, [-at for at in wheels], -end, [-at for at in goal])
            self.assertEqual(turned_about, [-place for place in row])
            farther = least_row(plays, handle + 9, [at + 9 for at in wheels], end + 9, [at + 9 for at in goal])
            self.assertEqual(farther, [place + 9 for place in row])


class Refusals(unittest.TestCase):
    def test_no_train_ahead_of_no_stand(self):
        for plays in ([], [-1], [3, -1], [-SIXTY, 3], [1] * 13):
            for wheels, goal in (([0] * len(plays), [0] * len(plays)), ([99], [99]), ([], [])):
                for asked in ASKED:
                    self.assertIs(refusal_of(asked, plays, 0, wheels, 0, goal), NoTrain)

    def test_no_stand_of_the_first_one_or_of_the_goal(self):
        for asked in ASKED:
            for wheels in ([4, 4], [-4, -4], [0, 3], [0, -3], [0], [], [0, 0, 0], [SIXTY, 0]):
                self.assertIs(refusal_of(asked, PLAYS, 0, wheels, 0, [0, 0]), NoStand)
                self.assertIs(refusal_of(asked, PLAYS, 0, [0, 0], 0, wheels), NoStand)
                self.assertIs(refusal_of(asked, PLAYS, 0, wheels, 0, wheels), NoStand)
            self.assertIs(refusal_of(asked, PLAYS, 9, [0, 0], 0, [0, 0]), NoStand)
            self.assertIs(refusal_of(asked, PLAYS, 0, [0, 0], -9, [0, 0]), NoStand)

    def test_at_the_ends_of_the_plays_nothing_is_refused(self):
        for asked in ASKED:
            self.assertIsNone(refusal_of(asked, PLAYS, 0, [3, 5], 0, [-3, -5]))


class HandedInAndTold(unittest.TestCase):
    def test_it_stays_and_the_told_lists_are_new_ones(self):
        for asked in (paper_of, least_row):
            for errand in ([[3, 2], 0, [0, 0], 0, [1, 2]], [[3, 2], 0, [0, 0], 2, [0, 0]], [[1], 0, [0], 0, [0]]):
                kept = copy.deepcopy(errand)
                told = asked(*errand)
                again = list(told)
                self.assertEqual(errand, kept)
                told.append(77)
                told[0] = 78
                self.assertEqual(errand, kept)
                self.assertEqual(asked(*errand), again)

    def test_it_stays_by_the_least_way(self):
        errand = [[3, 2], 0, [0, 0], 0, [1, 2]]
        kept = copy.deepcopy(errand)
        least_of(*errand)
        self.assertEqual(errand, kept)


if __name__ == "__main__":
    unittest.main()
