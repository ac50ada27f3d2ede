"""Boxes put together and multiplied, rows that leave all boxes alike [2, 3, 18, 31, 32]."""

import copy
import itertools
import unittest

from lugtrain.boxes import answers_of, returns_of, weights_of
from lugtrain.errors import NoBox, NoPlace, NoSwitch
from lugtrain.returns import standing_of
from lugtrain.sums import added, alike_rows, multiplied
from lugtrain.switches import Box
from reckoning import (
    NO_TOPS, SIXTY, all_rows, drawn_switches, is_switches, mixed, pairs_of, plain_answer, plain_lit, refusal_of,
    weighed,
)

FIFTY = 10 ** 50 - 1
NO_SWITCHES = ((-1, 1, 5), (0, 0, 5), (2, 1, 5), (0, 4, 5), (3, 4, 5), (0, SIXTY, 5), (-SIXTY, 1, 5), (3, 3, 0))


def drawn_pairs():
    """Tops and two boxes each, of all tops, of few and of many switches, of small and of great weights."""
    for top in range(1, 17):
        for seed, (many, most) in enumerate(((0, 1), (1, 3), (5, 1), (30, 2), (40, FIFTY))):
            one = drawn_switches(seed * 100 + top, top, many, most)
            yield top, one, drawn_switches(seed * 100 + top + 50, top, 12, most)
    yield 16, drawn_switches(7, 16, 300, FIFTY), drawn_switches(8, 16, 300, FIFTY)
    yield 2, drawn_switches(9, 2, 300, FIFTY), drawn_switches(10, 2, 300, FIFTY)


class Weighed(unittest.TestCase):
    def check_form(self, told):
        self.assertTrue(is_switches(told), told)
        self.assertEqual(told, sorted(told))
        self.assertEqual(len({(low, high) for low, high, weight in told}), len(told))
        self.assertNotIn(0, [weight for low, high, weight in told])


class Added(Weighed):
    def test_written_ones(self):
        self.assertEqual(added(3, [(1, 3, 7)], [(0, 2, 5)]), [(0, 2, 5), (1, 3, 7)])
        self.assertEqual(added(3, [(0, 2, 5)], [(0, 2, 6)]), [(0, 2, 11)])
        self.assertEqual(added(3, [(0, 2, 5)], [(0, 2, -5), (1, 3, 1)]), [(1, 3, 1)])
        self.assertEqual(added(3, [], []), [])
        self.assertEqual(added(3, [(0, 3, 0)], []), [])
        self.assertEqual(added(1, [(0, 1, SIXTY)], [(0, 1, 1)]), [(0, 1, SIXTY + 1)])

    def test_answers_are_the_sums(self):
        for number, (top, one, other) in enumerate(drawn_pairs()):
            told = added(top, one, other)
            self.check_form(told)
            row = mixed(number + 40, 30, 0, top)
            sums = [plain_answer(one, row[:many]) + plain_answer(other, row[:many]) for many in range(1, 31)]
            self.assertEqual(answers_of(top, told, row), sums, (top, one, other))

    def test_all_small_rows(self):
        one, other = drawn_switches(1, 3, 6, 3), drawn_switches(2, 3, 6, 3)
        told = added(3, one, other)
        for row in all_rows(range(4), 4):
            self.assertEqual(plain_answer(told, row), plain_answer(one, row) + plain_answer(other, row))

    def test_the_weights_of_the_sums_of_first_returns(self):
        for top, one, other in drawn_pairs():
            table = [[a + b for a, b in zip(*lists)] for lists in zip(returns_of(top, one), returns_of(top, other))]
            self.assertEqual(added(top, one, other), weights_of(table))

    def test_in_any_order_and_with_none(self):
        for top, one, other in drawn_pairs():
            self.assertEqual(added(top, one, other), added(top, other, one))
            self.assertEqual(added(top, one, []), weights_of(returns_of(top, one)))
            self.assertEqual(added(top, [], one), weights_of(returns_of(top, one)))

    def test_what_is_handed_in_is_not_changed_and_told_lists_are_new(self):
        one, other = [(0, 2, 5), (1, 3, 7)], [(1, 3, 7)]
        kept = copy.deepcopy((one, other))
        told = added(3, one, other)
        told.clear()
        self.assertEqual((one, other), kept)
        self.assertEqual(added(3, one, other), [(0, 2, 5), (1, 3, 14)])


class Multiplied(Weighed):
    def test_written_ones(self):
        self.assertEqual(multiplied(3, [(1, 3, 7), (0, 2, 5)], 3), [(0, 2, 15), (1, 3, 21)])
        self.assertEqual(multiplied(3, [(0, 2, 5), (0, 2, 6)], 2), [(0, 2, 22)])
        self.assertEqual(multiplied(3, [(0, 2, 5)], -1), [(0, 2, -5)])
        self.assertEqual(multiplied(3, [(0, 2, 5)], 0), [])
        self.assertEqual(multiplied(3, [], 7), [])
        self.assertEqual(multiplied(1, [(0, 1, SIXTY)], -SIXTY), [(0, 1, -SIXTY * SIXTY)])

    def test_answers_are_the_products(self):
        for number, (top, switches, other) in enumerate(drawn_pairs()):
            row = mixed(number + 60, 20, 0, top)
            answers = [plain_answer(switches, row[:many]) for many in range(1, 21)]
            for by in (0, 1, -1, 2, -3, 10 ** 9, FIFTY, -SIXTY):
                told = multiplied(top, switches, by)
                self.check_form(told)
                self.assertEqual(answers_of(top, told, row), [answer * by for answer in answers], (top, switches, by))

    def test_by_0_and_by_1(self):
        for top, switches, other in drawn_pairs():
            self.assertEqual(multiplied(top, switches, 0), [])
            self.assertEqual(multiplied(top, switches, 1), weights_of(returns_of(top, switches)))

    def test_a_box_and_itself_by_minus_1_come_to_none(self):
        for top, switches, other in drawn_pairs():
            self.assertEqual(added(top, switches, multiplied(top, switches, -1)), [])
            self.assertEqual(added(top, switches, switches), multiplied(top, switches, 2))

    def test_what_is_handed_in_is_not_changed_and_told_lists_are_new(self):
        switches = [(0, 2, 5), (1, 3, 7)]
        told = multiplied(3, switches, 1)
        told.clear()
        self.assertEqual(switches, [(0, 2, 5), (1, 3, 7)])
        self.assertEqual(multiplied(3, switches, 1), switches)


class AlikeRows(unittest.TestCase):
    def test_written_ones(self):
        for one, other, alike in (
            ([], [], True), ([], [0], True), ([0, 0], [], True), ([4], [4, 4], True), ([4], [2, 4], True),
            ([4], [3], False), ([4, 1], [4, 2], False), ([4, 1, 2], [3, 4, 0, 4, 1, 2], True), ([4, 0], [], True),
            ([4, 1, 0], [2, 0], True), ([4, 1, 3], [4, 3], False), ([4, 2, 3, 2], [4, 2], True),
            ([4, 2, 3, 1], [4, 1], True), ([3, 1], [4, 1], False), ([4, 0, 2], [2], True), ([1], [0, 1, 1], True),
            ([1], [], False), ([2, 1, 4], [4], True),
        ):
            self.assertIs(alike_rows(4, one, other), alike, (one, other))
            self.assertIs(alike_rows(4, other, one), alike, (one, other))

    def test_all_small_rows_against_a_box_of_all_switches(self):
        for top in (1, 2, 3):
            rows = list(all_rows(range(top + 1), 4 if top < 3 else 3))
            switches = weighed(pairs_of(top))
            lit = [plain_lit(switches, row) for row in rows]
            for one, other in itertools.product(range(len(rows)), repeat=2):
                self.assertIs(alike_rows(top, rows[one], rows[other]), lit[one] == lit[other], (rows[one], rows[other]))

    def test_drawn_rows_against_a_box_of_all_switches(self):
        seen = []
        for seed in range(400):
            top = 1 + seed % 16
            one = mixed(seed, seed % 9, 0, top)
            other = self.a_like_row(seed, one, top) if seed % 2 else mixed(seed + 900, seed % 7, 0, top)
            box_one, box_other = Box(top, weighed(pairs_of(top))), Box(top, weighed(pairs_of(top)))
            for box, row in ((box_one, one), (box_other, other)):
                for place in row:
                    box.turn(place)
            alike = box_one.lit() == box_other.lit()
            self.assertIs(alike_rows(top, one, other), alike, (top, one, other))
            seen.append((seed % 2, alike))
        self.assertGreater(min(seen.count((1, True)), seen.count((1, False)), seen.count((0, False))), 20)

    def a_like_row(self, seed, row, top):
        """The row with something ahead of it, or within, that is often wiped out."""
        ahead = mixed(seed + 500, 3, 0, top)
        if seed % 3 == 0:
            return ahead + [0] + row
        if seed % 3 == 1:
            return ahead + row
        at = mixed(seed, 1, 0, len(row))[0]
        return row[:at] + ahead[:1] + row[at:]

    def test_long_rows_and_their_standing_places(self):
        for seed in range(12):
            row = mixed(seed, 2000, 0, 16)
            self.assertIs(alike_rows(16, row, standing_of([0] + row)), True)
            last = 2000 - row[::-1].index(0)
            self.assertIs(alike_rows(16, row, row[last:]), True)
            self.assertIs(alike_rows(16, row, row[1000:] + row), True)
            self.assertIs(alike_rows(16, row, row + [(row[-1] + 1) % 17]), False)

    def test_just_where_the_standing_places_from_the_last_time_at_0_on_are_the_same(self):
        def standing(row):
            begun = [0] + row
            return standing_of(begun[len(begun) - 1 - begun[::-1].index(0):])

        switches = weighed(pairs_of(4))
        told = {}
        for row in all_rows(range(5), 5):
            answer = plain_answer(switches, row)
            self.assertEqual(told.setdefault(answer, standing(row)), standing(row), row)
        self.assertEqual(len(told), len({tuple(places) for places in told.values()}))

    def test_rows_are_not_changed(self):
        one, other = [3, 1, 2], [3, 2]
        self.assertIs(alike_rows(3, one, other), False)
        self.assertEqual((one, other), ([3, 1, 2], [3, 2]))


class Refusals(unittest.TestCase):
    def test_no_box_ahead_of_all(self):
        for top in NO_TOPS:
            for switches in ([], [(0, 1, 5)], [(-1, 1, 5)]):
                self.assertIs(refusal_of(added, top, switches, []), NoBox, top)
                self.assertIs(refusal_of(added, top, [], switches), NoBox, top)
                self.assertIs(refusal_of(multiplied, top, switches, 0), NoBox, top)
            for row in ([], [0], [-1], [SIXTY]):
                self.assertIs(refusal_of(alike_rows, top, row, []), NoBox, top)
                self.assertIs(refusal_of(alike_rows, top, [], row), NoBox, top)

    def test_no_switch(self):
        for wrong in NO_SWITCHES:
            for switches in ([wrong], [(0, 1, 5), wrong], [wrong, (0, 1, 5)]):
                for by in (0, 1, -SIXTY):
                    self.assertIs(refusal_of(multiplied, 3, switches, by), NoSwitch, wrong)
                self.assertIs(refusal_of(added, 3, switches, []), NoSwitch, wrong)
                self.assertIs(refusal_of(added, 3, [(0, 1, 5)], switches), NoSwitch, wrong)
                self.assertIs(refusal_of(added, 3, switches, switches), NoSwitch, wrong)

    def test_no_place(self):
        for place in (-SIXTY, -1, 4, 5, 17, SIXTY):
            for row in ([place], [0, 3, place], [place, 1], [2, place, place]):
                self.assertIs(refusal_of(alike_rows, 3, row, [1]), NoPlace, row)
                self.assertIs(refusal_of(alike_rows, 3, [1], row), NoPlace, row)
                self.assertIs(refusal_of(alike_rows, 3, row, row), NoPlace, row)
        for top in range(1, 17):
            self.assertIsNone(refusal_of(alike_rows, top, [0, top], [top, 0]))
            self.assertIsNone(refusal_of(added, top, [(0, top, 1)], [(top - 1, top, 1)]))


if __name__ == "__main__":
    unittest.main()
