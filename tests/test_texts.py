"""Texts of trains and stands: written, read, shown [2, 6, 23]."""

import copy
import re
import unittest

from lugtrain.errors import NoStand, NoText, NoTrain
from lugtrain.texts import read, shown
from reckoning import (
    FORTY, NO_STANDS, NO_TRAINS, NUMBER, SIGNS, a_stand, is_places, is_whole, mixed, refusal_of, spoilt,
)

WRITTEN = re.compile(rf"plays(?: {NUMBER})+\nat {NUMBER}(?: {NUMBER})+")


def drawn_stands(many):
    """Trains of 1 to 12 wheels and stands, of numbers of one figure up to forty."""
    for seed in range(many):
        most = (0, 1, 9, 12345, FORTY)[seed % 5]
        plays = mixed(seed, 1 + seed % 12, 0, most // 30 if seed % 3 and most > 30 else most)
        handle, wheels = a_stand(seed, plays, -most // 2, most // 2)
        if max(abs(place) for place in [handle] + wheels) <= FORTY:
            yield plays, handle, wheels


class Read(unittest.TestCase):
    def test_written_ones(self):
        self.assertEqual(read("plays 3 2\nat 9 6 4"), ([3, 2], 9, [6, 4]))
        self.assertEqual(read("plays 0\nat 0 0"), ([0], 0, [0]))
        self.assertEqual(read("plays 10\nat -7 -17"), ([10], -7, [-17]))
        self.assertEqual(read("plays 1 2 3\nat -1 0 -2 1"), ([1, 2, 3], -1, [0, -2, 1]))

    def test_numbers_of_forty_figures(self):
        self.assertEqual(read(f"plays {FORTY}\nat {FORTY} 0"), ([FORTY], FORTY, [0]))
        self.assertEqual(read(f"plays {FORTY}\nat -{FORTY} -1"), ([FORTY], -FORTY, [-1]))
        self.assertEqual(read("plays 1" + "0" * 39 + "\nat 0 0"), ([10 ** 39], 0, [0]))

    def test_one_to_twelve_wheels(self):
        for many in range(1, 13):
            text = "plays" + " 5" * many + "\nat" + " -3" * (many + 1)
            self.assertEqual(read(text), ([5] * many, -3, [-3] * many))

    def test_kinds(self):
        told = read("plays 3 2\nat 9 6 4")
        self.assertIs(told.__class__, tuple)
        plays, handle, wheels = told
        self.assertTrue(is_places(plays) and is_whole(handle) and is_places(wheels))

    def test_told_lists_are_the_askers_own(self):
        told = read("plays 3 2\nat 9 6 4")
        told[0].append(7)
        told[2].clear()
        self.assertEqual(read("plays 3 2\nat 9 6 4"), ([3, 2], 9, [6, 4]))


class NotSoWritten(unittest.TestCase):
    def check(self, text):
        self.assertIs(refusal_of(read, text), NoText, repr(text))

    def test_numbers(self):
        for word in ("", "-", "-0", "+1", "+0", "00", "01", "-01", "007", "--1", "1-", "1.0", "1e3", "1_0", "0x1", "a",
                     "1,", "1" + "0" * 40, "-1" + "0" * 40, "9" * 41, "0" * 41, "1" * 5000, "O", "l", "1:2", "\"1\""):
            self.check(f"plays {word}\nat 0 0")
            self.check(f"plays 1 {word}\nat 0 0 0")
            self.check(f"plays 1\nat {word} 0")
            self.check(f"plays 1\nat 0 {word}")
            self.check(f"plays 1 1\nat 0 {word} 0")

    def test_blanks(self):
        for text in (" plays 1\nat 0 0", "plays  1\nat 0 0", "plays 1 \nat 0 0", "plays 1\n at 0 0", "plays 1\nat  0 0",
                     "plays 1\nat 0  0", "plays 1\nat 0 0 ", "plays1\nat 0 0", "plays 1\nat0 0", "plays 1 at 0 0",
                     "plays 1\nat\t0 0", "plays\t1\nat 0 0", "plays 1\nat 0\t0", "\tplays 1\nat 0 0",
                     "plays 1\nat 0 0\t", "plays 1\t\nat 0 0"):
            self.check(text)

    def test_rows(self):
        for text in ("", "\n", " ", "plays 1", "at 0 0", "plays 1\n", "\nat 0 0", "plays 1\nat 0 0\n",
                     "\nplays 1\nat 0 0", "plays 1\n\nat 0 0", "at 0 0\nplays 1", "plays 1\nplays 1", "at 0 0\nat 0 0",
                     "plays 1\nat 0 0\nat 0 0", "plays 1\nplays 1\nat 0 0", "plays 1\nat 0 0\nwhere"):
            self.check(text)

    def test_words(self):
        for text in ("plays\nat 0 0", "plays \nat 0 0", "plays 1\nat", "plays 1\nat 0", "plays 1\nat 0 ", "plays\nat",
                     "1\nat 0 0", "plays 1\n0 0", "play 1\nat 0 0", "Plays 1\nat 0 0", "PLAYS 1\nAT 0 0",
                     "playss 1\nat 0 0", "plays 1\nAt 0 0", "plays 1\nats 0 0", "plays 1\na 0 0",
                     "plays plays 1\nat 0 0", "plays 1\nat at 0 0", "plays 1 plays\nat 0 0", "plays 1\nat 0 0 at",
                     "plays 1, 2\nat 0 0 0", "plays [1]\nat 0 0"):
            self.check(text)

    def test_each_spoilt_in_one_sign(self):
        for text in ("plays 3 20\nat -1 0 10", "plays 0\nat 0 0", f"plays {FORTY}\nat 0 -{FORTY}"):
            self.assertIsNone(refusal_of(read, text))
            written = 0
            for other in spoilt(text, SIGNS):
                refusal = refusal_of(read, other)
                if WRITTEN.fullmatch(other):
                    written += 1
                    self.assertIn(refusal, (None, NoTrain, NoStand), repr(other))
                else:
                    self.assertIs(refusal, NoText, repr(other))
            self.assertGreater(written, 2)

    def test_no_text_ahead_of_no_train_and_no_stand(self):
        for text in ("plays -1\nat 0 0 x", "plays -1 x\nat 0 0", "plays -1\nat 0", "plays 1\nat 9 0 \n", "plays -1\n",
                     "plays" + " 1" * 13 + "\nat 0 00", "plays 1\nat 99 0 "):
            self.check(text)


class NoTrainsAndStands(unittest.TestCase):
    def test_no_train(self):
        for text in ("plays" + " 1" * 13 + "\nat" + " 0" * 14, "plays -1\nat 0 0", "plays 3 -1\nat 0 0 0",
                     "plays -1 3\nat 0 0 0", f"plays -{FORTY}\nat 0 0", "plays -1\nat 5 0", "plays -1\nat 0 0 0",
                     "plays" + " 1" * 13 + "\nat 0 0"):
            self.assertIs(refusal_of(read, text), NoTrain, text)

    def test_no_stand(self):
        for text in ("plays 3 2\nat 0 4 4", "plays 3 2\nat 0 -4 -4", "plays 3 2\nat 0 0 3", "plays 3 2\nat 0 0 -3",
                     "plays 3 2\nat 0 0", "plays 3 2\nat 0 0 0 0", "plays 0\nat 1 0", f"plays 0\nat {FORTY} -{FORTY}",
                     "plays" + " 1" * 12 + "\nat" + " 0" * 14):
            self.assertIs(refusal_of(read, text), NoStand, text)


class Shown(unittest.TestCase):
    def test_written_ones(self):
        self.assertEqual(shown([3, 2], 9, [6, 4]), "plays 3 2\nat 9 6 4")
        self.assertEqual(shown([0], 0, [0]), "plays 0\nat 0 0")
        self.assertEqual(shown([10], -7, [-17]), "plays 10\nat -7 -17")
        self.assertEqual(shown([FORTY] * 12, FORTY, [-0] * 12),
                         "plays" + f" {FORTY}" * 12 + f"\nat {FORTY}" + " 0" * 12)
        self.assertEqual(shown([FORTY], 0, [-FORTY]), f"plays {FORTY}\nat 0 -{FORTY}")

    def test_what_is_shown_is_read_and_what_is_read_is_shown(self):
        figures = set()
        for plays, handle, wheels in drawn_stands(240):
            text = shown(plays, handle, wheels)
            self.assertIs(text.__class__, str)
            self.assertTrue(WRITTEN.fullmatch(text), text)
            self.assertEqual(read(text), (plays, handle, wheels))
            self.assertEqual(shown(*read(text)), text)
            figures |= {len(word.strip("-")) for word in text.split() if word not in ("plays", "at")}
        self.assertTrue({1, 5, 40} <= figures, figures)

    def test_no_train_then_no_stand(self):
        for plays in NO_TRAINS:
            for wheels in ([], [0], [0] * len(plays), [99] * len(plays)):
                self.assertIs(refusal_of(shown, plays, 0, wheels), NoTrain, plays)
        for handle, wheels in NO_STANDS:
            self.assertIs(refusal_of(shown, [3, 2], handle, wheels), NoStand, (handle, wheels))

    def test_what_is_handed_in_is_not_changed(self):
        things = ([3, 2], 9, [6, 4])
        kept = copy.deepcopy(things)
        shown(*things)
        self.assertEqual(things, kept)


if __name__ == "__main__":
    unittest.main()
