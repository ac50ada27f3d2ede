"""First returns, tables and their weights, tellers, wheels as boxes [2, 3, 18, 19, 20, 21, 22]."""

import copy
import itertools
import unittest

from lugtrain.boxes import answers_of, returns_of, teller_of, weights_of, wheel_box
from lugtrain.errors import NoBox, NoPlace, NoSwitch, NoTable
from lugtrain.hung import hung_row
from lugtrain.switches import Box
from reckoning import (
    NO_TOPS, SIXTY, all_rows, drawn_switches, is_places, is_switches, is_whole, mixed, pairs_of, plain_answer,
    refusal_of, weighed,
)

FIFTY = 10 ** 50 - 1
NO_SWITCHES = ((-1, 1, 5), (0, 0, 5), (2, 1, 5), (0, 4, 5), (3, 4, 5), (0, SIXTY, 5), (-SIXTY, 1, 5), (3, 3, 0))


def plain_returns(top, switches):
    """The first returns, each answer by the words of the document."""
    return [[plain_answer(switches, [high, low]) for low in range(high + 1)] for high in range(top + 1)]


def drawn_table(seed, top, low, high):
    """A table of the form of first returns, its numbers in disorder."""
    return [[0] + mixed(seed * 40 + place, place, low, high) for place in range(top + 1)]


def drawn_boxes():
    """Tops and switches, of all tops, of few and of many switches, of small and of great weights."""
    for top in range(1, 17):
        for seed, (many, most) in enumerate(((0, 1), (1, 3), (4, 1), (12, 2), (40, FIFTY))):
            yield top, drawn_switches(seed * 100 + top, top, many, most)
    yield 16, drawn_switches(7, 16, 300, FIFTY)
    yield 16, drawn_switches(8, 16, 300, 1)
    yield 3, drawn_switches(9, 3, 300, FIFTY)
    yield 1, drawn_switches(10, 1, 300, FIFTY)


class FirstReturns(unittest.TestCase):
    def test_one_switch(self):
        self.assertEqual(returns_of(3, [(0, 2, 5)]), [[0], [0, 0], [0, 5, 5], [0, 5, 5, 5]])
        self.assertEqual(returns_of(3, [(1, 2, 5)]), [[0], [0, 0], [0, 0, 5], [0, 0, 5, 5]])
        self.assertEqual(returns_of(3, [(2, 3, -5)]), [[0], [0, 0], [0, 0, 0], [0, 0, 0, -5]])

    def test_several(self):
        self.assertEqual(returns_of(3, [(0, 2, 5), (1, 3, 7), (0, 2, 1)]), [[0], [0, 0], [0, 6, 6], [0, 6, 13, 13]])

    def test_the_least_top(self):
        self.assertEqual(returns_of(1, [(0, 1, 4)]), [[0], [0, 4]])
        self.assertEqual(returns_of(1, []), [[0], [0, 0]])

    def test_without_switches(self):
        for top in range(1, 17):
            self.assertEqual(returns_of(top, []), [[0] * (high + 1) for high in range(top + 1)])

    def test_drawn_ones_by_the_words(self):
        for top, switches in drawn_boxes():
            self.assertEqual(returns_of(top, switches), plain_returns(top, switches), (top, switches))

    def test_each_begins_anew(self):
        # A box that isn't begun anew would still have a switch on from the row ahead.
        switches = weighed(pairs_of(6))
        told = returns_of(6, switches)
        for high in range(7):
            for low in range(high + 1):
                box = Box(6, switches)
                box.turn(high)
                self.assertEqual(told[high][low], box.turn(low), (high, low))

    def test_kinds(self):
        for top, switches in ((1, []), (16, drawn_switches(1, 16, 20, 9))):
            told = returns_of(top, switches)
            self.assertIs(told.__class__, list)
            self.assertTrue(all(is_places(answers) for answers in told))
            self.assertEqual([len(answers) for answers in told], list(range(1, top + 2)))

    def test_told_lists_are_the_askers_own(self):
        switches = [(0, 2, 5), (1, 3, 7)]
        told = returns_of(3, switches)
        expected = copy.deepcopy(told)
        for answers in told:
            answers[0] = 99
            answers.append(98)
        told.clear()
        self.assertEqual(returns_of(3, switches), expected)
        again = returns_of(3, [])
        self.assertEqual(len({id(answers) for answers in again}), 4)


class Weights(unittest.TestCase):
    def test_of_written_tables(self):
        self.assertEqual(weights_of([[0], [0, 4]]), [(0, 1, 4)])
        self.assertEqual(weights_of([[0], [0, 0]]), [])
        self.assertEqual(weights_of([[0], [0, 0], [0, 6, 6], [0, 6, 13, 13]]), [(0, 2, 6), (1, 3, 7)])
        self.assertEqual(weights_of([[0], [0, 1], [0, 2, 4]]), [(0, 1, 1), (0, 2, 1), (1, 2, 2)])
        self.assertEqual(weights_of([[0], [0, 3], [0, 0, 0]]), [(0, 1, 3), (0, 2, -3)])
        self.assertEqual(weights_of([[0], [0, SIXTY], [0, -SIXTY, 0]]),
                         [(0, 1, SIXTY), (0, 2, -2 * SIXTY), (1, 2, SIXTY)])

    def check(self, table):
        told = weights_of(table)
        self.assertTrue(is_switches(told), told)
        self.assertEqual(told, sorted(told))
        pairs = [(low, high) for low, high, weight in told]
        self.assertEqual(len(pairs), len(set(pairs)))
        self.assertNotIn(0, [weight for low, high, weight in told])
        self.assertEqual(plain_returns(len(table) - 1, told), table)
        self.assertEqual(returns_of(len(table) - 1, told), table)

    def test_of_drawn_boxes(self):
        for top, switches in drawn_boxes():
            self.check(returns_of(top, switches))

    def test_of_any_whole_numbers(self):
        for top in range(1, 17):
            for seed, most in enumerate((0, 1, 3, 100, SIXTY)):
                self.check(drawn_table(seed * 20 + top, top, -most, most))

    def test_of_all_small_tables(self):
        for numbers in itertools.product((-1, 0, 1), repeat=6):
            one, *rest = numbers
            self.check([[0], [0, one], [0] + rest[:2], [0] + rest[2:]])

    def test_they_are_the_one_list(self):
        # All lists of weights from -1 to 1 for the three switches of top 2, none told of two tables.
        tables = {}
        for weights in itertools.product((-1, 0, 1), repeat=3):
            switches = sorted((*pair, weight) for pair, weight in zip(pairs_of(2), weights) if weight != 0)
            table = plain_returns(2, switches)
            self.assertEqual(weights_of(table), switches)
            tables[str(table)] = switches
        self.assertEqual(len(tables), 27)

    def test_several_switches_of_one_low_and_high(self):
        self.assertEqual(weights_of(returns_of(4, [(1, 3, 5), (0, 4, 2), (1, 3, 6), (1, 3, -1)])),
                         [(0, 4, 2), (1, 3, 10)])
        self.assertEqual(weights_of(returns_of(4, [(1, 3, 5), (0, 4, 0), (1, 3, -5)])), [])
        self.assertEqual(weights_of(returns_of(1, [(0, 1, 1)] * 300)), [(0, 1, 300)])

    def test_the_largest_of_all_pairs(self):
        switches = weighed(pairs_of(16))
        self.assertEqual(weights_of(returns_of(16, switches)), sorted(switches))

    def test_a_box_of_them_answers_every_row_as_the_box_does(self):
        for number, (top, switches) in enumerate(drawn_boxes()):
            told = weights_of(returns_of(top, switches))
            for many in (1, 7, 60):
                row = mixed(number * 3 + many, many, 0, top)
                self.assertEqual(answers_of(top, told, row), answers_of(top, switches, row), (top, switches, row))

    def test_all_small_rows_are_answered_so(self):
        for seed in range(6):
            switches = drawn_switches(seed, 3, 8, 3)
            told = weights_of(returns_of(3, switches))
            for row in all_rows(range(4), 4):
                self.assertEqual(answers_of(3, told, row), answers_of(3, switches, row))

    def test_what_is_handed_in_is_not_changed_and_told_lists_are_new(self):
        table = drawn_table(3, 6, -2, 2)
        kept = copy.deepcopy(table)
        told = weights_of(table)
        self.assertEqual(table, kept)
        expected = list(told)
        told.append((9, 9, 9))
        self.assertEqual(weights_of(table), expected)


class NoTables(unittest.TestCase):
    def test_first_numbers_other_than_0(self):
        for top in (1, 2, 5, 16):
            for high in range(top + 1):
                for wrong in (1, -1, SIXTY):
                    table = drawn_table(4, top, -3, 3)
                    table[high][0] = wrong
                    self.assertIs(refusal_of(weights_of, table), NoTable, table)

    def test_other_lengths(self):
        for top in (1, 2, 5, 16):
            for high in range(top + 1):
                for change in (lambda answers: answers.append(0), lambda answers: answers.pop(),
                               lambda answers: answers.clear(), lambda answers: answers.extend([0] * 20)):
                    table = drawn_table(5, top, -3, 3)
                    change(table[high])
                    self.assertIs(refusal_of(weights_of, table), NoTable, table)

    def test_fewer_lists_than_two_or_more_than_seventeen(self):
        for table in ([], [[0]], [[]], [[1]], [[0, 0]]):
            self.assertIs(refusal_of(weights_of, table), NoTable, table)
        for many in (18, 19, 40):
            self.assertIs(refusal_of(weights_of, [[0] * (high + 1) for high in range(many)]), NoTable, many)
        for many in (2, 3, 16, 17):
            self.assertIsNone(refusal_of(weights_of, [[0] * (high + 1) for high in range(many)]), many)

    def test_lists_missing_or_in_another_order(self):
        table = drawn_table(6, 5, -3, 3)
        for high in range(5):
            self.assertIs(refusal_of(weights_of, table[:high] + table[high + 1:]), NoTable, high)
        self.assertIs(refusal_of(weights_of, table[::-1]), NoTable)
        self.assertIs(refusal_of(weights_of, [[0, 0], [0]]), NoTable)
        self.assertIs(refusal_of(weights_of, [[0], []]), NoTable)
        self.assertIs(refusal_of(weights_of, [[0], [0]]), NoTable)


class Answers(unittest.TestCase):
    def test_one_behind_each_place(self):
        switches = [(0, 2, 10), (1, 4, 100), (3, 6, -7)]
        row = [1, 2, 3, 4, 6, 4, 3, 5, 1, 3, 0, 6]
        self.assertEqual(answers_of(6, switches, row), [0, 10, 10, 110, 103, 103, 110, 110, 10, 10, 0, 103])

    def test_rows_without_places_and_boxes_without_switches(self):
        self.assertEqual(answers_of(3, [(0, 1, 5)], []), [])
        self.assertEqual(answers_of(3, [], []), [])
        self.assertEqual(answers_of(3, [], [3, 0, 2]), [0, 0, 0])

    def test_drawn_ones_by_the_words(self):
        for number, (top, switches) in enumerate(drawn_boxes()):
            row = mixed(number + 700, 12, 0, top)
            expected = [plain_answer(switches, row[:many]) for many in range(1, 13)]
            self.assertEqual(answers_of(top, switches, row), expected, (top, switches, row))

    def test_each_asking_begins_anew(self):
        switches = [(0, 4, 1)]
        self.assertEqual(answers_of(4, switches, [4]), [1])
        self.assertEqual(answers_of(4, switches, [1]), [0])

    def test_three_hundred_switches_and_two_thousand_places(self):
        switches = drawn_switches(11, 16, 300, FIFTY)
        row = mixed(12, 2000, 0, 16)
        told = answers_of(16, switches, row)
        self.assertTrue(is_places(told))
        self.assertEqual(len(told), 2000)
        for many in (1, 2, 3, 10, 500, 1999, 2000):
            self.assertEqual(told[many - 1], plain_answer(switches, row[:many]), many)


class Tellers(unittest.TestCase):
    def test_written_ones(self):
        self.assertEqual(teller_of(3, [(0, 2, 5)], [(1, 2, 5)]), [2, 1])
        self.assertEqual(teller_of(3, [(0, 2, 5)], [(0, 3, 5)]), [2, 2])
        self.assertEqual(teller_of(3, [(0, 3, 5)], []), [3, 3])
        self.assertEqual(teller_of(1, [], [(0, 1, SIXTY)]), [1, 1])
        # At [3, 3] and [3, 2] both answer alike, at [3, 1] no more.
        self.assertEqual(teller_of(3, [(1, 3, 5)], [(0, 3, 5)]), [3, 1])
        self.assertEqual(teller_of(16, [(0, 16, 1)], [(1, 16, 1)]), [16, 1])

    def test_boxes_alike_in_all_answers(self):
        for top, switches in drawn_boxes():
            self.assertIsNone(teller_of(top, switches, switches))
            self.assertIsNone(teller_of(top, switches, switches[::-1]))
            self.assertIsNone(teller_of(top, weights_of(returns_of(top, switches)), switches))
        self.assertIsNone(teller_of(4, [(1, 3, 5), (1, 3, -5)], []))
        self.assertIsNone(teller_of(4, [(1, 3, 5), (1, 3, 2)], [(0, 2, 0), (1, 3, 7)]))

    def test_the_least_high_and_for_it_the_greatest_low(self):
        for seed in range(150):
            top = 1 + seed % 6
            one = drawn_switches(seed, top, seed % 5, 2)
            other = one[1:] + drawn_switches(seed + 300, top, seed % 3, 2)
            otherwise = [
                (high, -low)
                for high in range(top + 1)
                for low in range(high + 1)
                if plain_answer(one, [high, low]) != plain_answer(other, [high, low])
            ]
            expected = [min(otherwise)[0], -min(otherwise)[1]] if otherwise else None
            self.assertEqual(teller_of(top, one, other), expected, (top, one, other))

    def test_the_told_row_tells_them_apart(self):
        for seed in range(40):
            one, other = drawn_switches(seed, 16, 30, FIFTY), drawn_switches(seed + 50, 16, 30, FIFTY)
            row = teller_of(16, one, other)
            self.assertTrue(is_places(row))
            self.assertNotEqual(answers_of(16, one, row)[-1], answers_of(16, other, row)[-1])
            self.assertEqual(teller_of(16, other, one), row)

    def test_none_just_where_all_rows_are_answered_alike(self):
        rows = list(all_rows(range(3), 4))
        small = [[(*pair, weight) for pair, weight in zip(pairs_of(2), weights)]
                 for weights in itertools.product((0, 1), repeat=3)]
        for one, other in itertools.product(small, repeat=2):
            alike = all(answers_of(2, one, row) == answers_of(2, other, row) for row in rows)
            self.assertEqual(teller_of(2, one, other) is None, alike, (one, other))


class WheelBoxes(unittest.TestCase):
    def test_written_ones(self):
        self.assertEqual(wheel_box(1, 6), [(0, 3, 1), (1, 4, 1), (2, 5, 1), (3, 6, 1)])
        self.assertEqual(wheel_box(0, 3), [(0, 1, 1), (1, 2, 1), (2, 3, 1)])
        self.assertEqual(wheel_box(2, 5), [(0, 5, 1)])
        self.assertEqual(wheel_box(2, 4), [])
        self.assertEqual(wheel_box(0, 1), [(0, 1, 1)])
        self.assertEqual(wheel_box(7, 16), [(0, 15, 1), (1, 16, 1)])

    def test_by_the_words(self):
        for top in range(1, 17):
            for depth in range(top + 3):
                expected = []
                at = depth
                while at + depth + 1 <= top:
                    expected.append((at - depth, at + depth + 1, 1))
                    at += 1
                told = wheel_box(depth, top)
                self.assertTrue(is_switches(told))
                self.assertEqual(told, sorted(expected), (depth, top))

    def test_the_wheels_place_is_its_first_one_and_the_answer_more(self):
        for top in range(1, 17):
            for depth in range(top + 3):
                switches = wheel_box(depth, top)
                row = mixed(depth * 20 + top, 80, 0, top)
                expected = [at - depth for at in hung_row(depth, depth, row)]
                self.assertEqual(answers_of(top, switches, row), expected, (depth, top))

    def test_all_small_rows(self):
        for depth in range(4):
            switches = wheel_box(depth, 4)
            for row in all_rows(range(5), 4):
                expected = [at - depth for at in hung_row(depth, depth, row)]
                self.assertEqual(answers_of(4, switches, row), expected, (depth, row))

    def test_depths_far_beyond_the_top(self):
        for depth in (8, 17, 10 ** 9, SIXTY):
            self.assertEqual(wheel_box(depth, 16), [])

    def test_told_lists_are_the_askers_own(self):
        told = wheel_box(1, 6)
        told.clear()
        self.assertEqual(len(wheel_box(1, 6)), 4)

    def test_no_box(self):
        for top in NO_TOPS:
            self.assertIs(refusal_of(wheel_box, 0, top), NoBox, top)


class Refusals(unittest.TestCase):
    def test_no_box_ahead_of_all(self):
        for top in NO_TOPS:
            for switches in ([], [(0, 1, 5)], [(-1, 1, 5)]):
                self.assertIs(refusal_of(returns_of, top, switches), NoBox, top)
                self.assertIs(refusal_of(answers_of, top, switches, []), NoBox, top)
                self.assertIs(refusal_of(answers_of, top, switches, [-1]), NoBox, top)
                self.assertIs(refusal_of(teller_of, top, switches, []), NoBox, top)
                self.assertIs(refusal_of(teller_of, top, [], switches), NoBox, top)

    def test_no_switch(self):
        for wrong in NO_SWITCHES:
            for switches in ([wrong], [(0, 1, 5), wrong], [wrong, (0, 1, 5)]):
                self.assertIs(refusal_of(returns_of, 3, switches), NoSwitch, wrong)
                self.assertIs(refusal_of(answers_of, 3, switches, []), NoSwitch, wrong)
                self.assertIs(refusal_of(answers_of, 3, switches, [0, 4]), NoSwitch, wrong)
                self.assertIs(refusal_of(teller_of, 3, switches, []), NoSwitch, wrong)
                self.assertIs(refusal_of(teller_of, 3, [(0, 1, 5)], switches), NoSwitch, wrong)
                self.assertIs(refusal_of(teller_of, 3, switches, switches), NoSwitch, wrong)

    def test_no_switch_of_the_other_box_though_the_first_tells_much(self):
        self.assertIs(refusal_of(teller_of, 3, weighed(pairs_of(3)), [(0, 4, 1)]), NoSwitch)

    def test_no_place(self):
        for switches in ([], [(0, 1, 5)]):
            for place in (-SIXTY, -1, 4, 5, 17, SIXTY):
                for row in ([place], [0, 3, place], [place, 1], [2, place, place]):
                    self.assertIs(refusal_of(answers_of, 3, switches, row), NoPlace, row)
            self.assertIsNone(refusal_of(answers_of, 3, switches, [0, 1, 2, 3]))

    def test_nothing_is_refused_where_all_is_well(self):
        for top in range(1, 17):
            edges = [(0, top, 1), (top - 1, top, 1), (0, 1, 0)]
            self.assertIsNone(refusal_of(returns_of, top, edges))
            self.assertIsNone(refusal_of(teller_of, top, edges, []))
            self.assertIsNone(refusal_of(answers_of, top, edges, [0, top]))

    def test_what_is_handed_in_is_not_changed(self):
        one, other, row = [(0, 2, 5), (1, 3, 7)], [(1, 3, 7)], [3, 1, 2]
        kept = copy.deepcopy((one, other, row))
        returns_of(3, one)
        answers_of(3, one, row)
        teller_of(3, one, other)
        self.assertEqual((one, other, row), kept)
        told = answers_of(3, one, row)
        told.append(1)
        self.assertEqual(len(answers_of(3, one, row)), 3)
        told = teller_of(3, one, other)
        told.append(1)
        self.assertEqual(teller_of(3, one, other), [2, 2])
        self.assertTrue(all(is_whole(place) for place in told))


if __name__ == "__main__":
    unittest.main()
