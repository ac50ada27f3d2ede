"""The desk: its rows, its answers, its refusals, and what is taken back [2, 3, 24, 25]."""

import re
import unittest

from lugtrain.desk import Desk
from lugtrain.errands import least_of, least_row
from lugtrain.errors import NoPiece, NoRow, NoStand, NothingLeft, NoTrain
from lugtrain.texts import read
from reckoning import FORTY, NUMBER, SIGNS, mixed, plain_depths, plain_grabbed, refusal_of, spoilt

ROWS = re.compile(
    rf"plays(?: {NUMBER})+|at {NUMBER}(?: {NUMBER})+|turn(?: {NUMBER})+|where|ways|least {NUMBER}(?: {NUMBER})+"
    rf"|text|grab {NUMBER} {NUMBER}|range {NUMBER} {NUMBER}|back"
)
ASKING = ("where", "ways", "text")


def desk_of(*rows):
    """A desk that has been told these rows."""
    desk = Desk()
    for row in rows:
        desk.say(row)
    return desk


def told_by(desk):
    """All that the desk tells of itself; NoRow as long as there is no train."""
    return [refusal_of(desk.say, row) or desk.say(row) for row in ASKING]


def words(numbers):
    return " ".join(str(number) for number in numbers)


class PlainDesk:
    """Where a train stands once it has been told these deeds alone, by the words of the document."""

    def __init__(self, deeds):
        for deed in deeds:
            word, *numbers = deed.split()
            self.do(word, [int(number) for number in numbers])

    def do(self, word, numbers):
        if word == "plays":
            self.plays = numbers
            self.lay(0, [0] * len(numbers))
        elif word == "at":
            self.lay(numbers[0], numbers[1:])
        elif word == "turn":
            for place in numbers:
                self.move(-1, place)
        else:
            self.move(*numbers)

    def lay(self, handle, wheels):
        self.handle, self.wheels, self.ways = handle, wheels, [0] * len(wheels)

    def move(self, piece, place):
        before = self.wheels
        self.handle, self.wheels = plain_grabbed(self.plays, self.handle, before, piece, place)
        self.ways = [way + abs(at - was) for way, at, was in zip(self.ways, self.wheels, before)]

    def told(self):
        where = words([self.handle] + self.wheels)
        return [where, words(self.ways), f"plays {words(self.plays)}\nat {where}"]


class Rows(unittest.TestCase):
    def check(self, rows):
        desk = Desk()
        for row, answer in rows:
            told = desk.say(row)
            self.assertEqual(told, answer, row)
            self.assertIs(told.__class__, str)

    def test_plays(self):
        self.check([("plays 3 2", "ok"), ("where", "0 0 0"), ("ways", "0 0"), ("text", "plays 3 2\nat 0 0 0")])
        self.check([("plays 0", "ok"), ("where", "0 0"), ("turn 5", "ok"), ("plays 1 1 1", "ok"), ("where", "0 0 0 0"),
                    ("ways", "0 0 0")])
        self.check([("plays" + " 1" * 12, "ok"), ("where", "0" + " 0" * 12)])

    def test_at(self):
        self.check([("plays 3 2", "ok"), ("at 9 6 4", "ok"), ("where", "9 6 4"), ("ways", "0 0"),
                    ("text", "plays 3 2\nat 9 6 4")])
        self.check([("plays 3 2", "ok"), ("turn 9", "ok"), ("ways", "6 4"), ("at 9 6 4", "ok"), ("ways", "0 0")])

    def test_turn(self):
        self.check([("plays 3 2", "ok"), ("turn 9", "ok"), ("where", "9 6 4"), ("turn 0 -6", "ok"),
                    ("where", "-6 -3 -1"),
                    ("ways", "15 9"), ("turn -6", "ok"), ("where", "-6 -3 -1"), ("ways", "15 9")])

    def test_ways_count_each_place_of_a_row(self):
        self.check([("plays 1", "ok"), ("turn 9 -9 9", "ok"), ("where", "9 8"), ("ways", "40")])

    def test_grab(self):
        self.check([("plays 3 2", "ok"), ("grab 1 9", "ok"), ("where", "4 7 9"), ("ways", "7 9"), ("grab -1 0", "ok"),
                    ("where", "0 3 5"), ("ways", "11 13"), ("grab 0 0", "ok"), ("where", "0 0 2"), ("ways", "14 16")])

    def test_least(self):
        self.check([("plays 3 2", "ok"), ("least 0 1 2", "18 7 -2 0"), ("where", "0 0 0"), ("least 2 0 0", "2 2"),
                    ("least 0 0 0", "0"), ("turn 9", "ok"), ("least 9 6 4", "0"), ("least 8 6 4", "1 8")])

    def test_range(self):
        self.check([("plays 3 2", "ok"), ("range -9 9", "-6:6 -4:4"), ("range 0 0", "0:0 0:0"), ("at 0 3 5", "ok"),
                    ("range -9 9", "-6:6 -4:5"), ("where", "0 3 5"), ("ways", "0 0")])
        self.check([("plays 0", "ok"), ("range -1 2", "-1:2")])

    def test_back(self):
        self.check([("plays 3 2", "ok"), ("turn 9 0 -6", "ok"), ("back", "ok"), ("where", "0 0 0"), ("ways", "0 0"),
                    ("turn 9", "ok"), ("where", "9 6 4")])

    def test_numbers_of_forty_figures(self):
        self.check([(f"plays {FORTY}", "ok"), (f"at {FORTY} 0", "ok"), ("where", f"{FORTY} 0"),
                    (f"turn -{FORTY}", "ok"),
                    ("where", f"-{FORTY} 0"), (f"range -{FORTY} {FORTY}", "0:0"), (f"grab 0 {FORTY}", "ok"),
                    ("where", f"0 {FORTY}"), ("text", f"plays {FORTY}\nat 0 {FORTY}")])

    def test_answers_of_more_than_forty_figures(self):
        self.check([("plays 0", "ok"), (f"turn {FORTY} -{FORTY}", "ok"), ("ways", str(3 * FORTY)),
                    (f"least {FORTY} {FORTY}", f"{2 * FORTY} {FORTY}")])
        self.check([(f"plays {FORTY} {FORTY}", "ok"),
                    ("least 0 1 2", words([6 * FORTY + 2, 2 * FORTY + 2, 1 - FORTY, 0]))])

    def test_asking_changes_nothing(self):
        desk = desk_of("plays 3 2", "turn 9 0")
        expected = told_by(desk)
        for row in ("where", "ways", "text", "least 0 1 2", "range -9 9") * 3:
            desk.say(row)
            self.assertEqual(told_by(desk), expected, row)
        # Nor can it be taken back: that takes back the turning.
        desk.say("back")
        self.assertEqual(desk.say("where"), "0 0 0")


class NoRows(unittest.TestCase):
    def check(self, rows, wrong, refusal):
        desk = desk_of(*rows)
        expected = told_by(desk)
        self.assertIs(refusal_of(desk.say, wrong), refusal, repr(wrong))
        self.assertEqual(told_by(desk), expected, repr(wrong))
        # As many rows can be taken back as ahead of it.
        for row in rows:
            self.assertEqual(desk.say("back"), "ok")
        self.assertIs(refusal_of(desk.say, "back"), NothingLeft)

    def check_no_row(self, wrong):
        self.check([], wrong, NoRow)
        self.check(["plays 3 2", "turn 9"], wrong, NoRow)

    def test_none_of_these_rows(self):
        for row in ("", " ", "plays", "at", "turn", "least", "grab", "range", "go 1", "Where", "WHERE", "wheres",
                    "help", "at 0", "least 0", "grab 0", "grab 0 1 2", "range 0", "range 0 1 2", "where 0", "ways 0",
                    "text 0", "back 1", "back back", "where ways", "5", "plays 3 two", "turn up", "at 0 0 x", "3 2",
                    "play 3"):
            self.check_no_row(row)

    def test_numbers_that_are_not_so_written(self):
        for word in ("", "-", "-0", "+1", "00", "01", "-01", "--1", "1.0", "1e3", "1_0", "a", "1,", "1" + "0" * 40,
                     "-1" + "0" * 40, "1" * 5000, "1:2"):
            for row in (f"plays {word}", f"plays 1 {word}", f"at {word} 0 0", f"at 0 0 {word}", f"turn {word}",
                        f"turn 1 {word} 2", f"least {word} 0 0", f"least 0 {word} 0", f"grab {word} 0",
                        f"grab 0 {word}", f"range {word} 0", f"range 0 {word}"):
                self.check_no_row(row)

    def test_blanks_tabs_and_line_feeds(self):
        for row in (" where", "where ", "where\n", "\nwhere", "where\t", "plays  1", " plays 1", "plays 1 ",
                    "plays 1\n", "plays\t1", "turn 1  2", "turn 1\t2", "turn 1\n2", "at 0 0 0 ", "at  0 0 0",
                    "grab  0 0", "range 0  0", "back ", " back", "back\n", "text ", "ways ", "least 0 0 0 ",
                    "plays 1\nat 0 0", "turn 1\nwhere"):
            self.check_no_row(row)

    def test_each_spoilt_in_one_sign(self):
        for row in ("plays 3 20", "at 9 6 4", "turn 10 -5", "where", "ways", "least 9 6 4", "text", "grab -1 5",
                    "range -9 10", "back"):
            desk = desk_of("plays 3 2", "turn 9")
            expected = told_by(desk)
            for other in spoilt(row, SIGNS):
                if not ROWS.fullmatch(other):
                    self.assertIs(refusal_of(desk.say, other), NoRow, repr(other))
                else:
                    self.assertIn(refusal_of(desk_of("plays 3 2", "turn 9").say, other),
                                  (None, NoTrain, NoStand, NoPiece), repr(other))
            self.assertEqual(told_by(desk), expected)

    def test_as_long_as_there_is_no_train(self):
        for row in ("at 0 0", "turn 5", "where", "ways", "least 0 0", "text", "grab 0 5", "grab 99 5", "range 0 0",
                    "range 5 0", "at 9 0 0 0"):
            desk = Desk()
            self.assertIs(refusal_of(desk.say, row), NoRow, row)
            desk.say("plays 3 2")
            self.assertEqual(desk.say("where"), "0 0 0")
            desk.say("back")
            self.assertIs(refusal_of(desk.say, row), NoRow, row)

    def test_no_row_ahead_of_the_others(self):
        for row in ("plays -1 x", "plays" + " 1" * 13 + " 01", "at 99 0 x", "at 99 0 ", "least 99 0 -0", "range 5 0 ",
                    "grab 99 +5", "grab 99", "back 0"):
            self.check_no_row(row)


class OtherRefusals(unittest.TestCase):
    check = NoRows.check

    def test_no_train(self):
        for row in ("plays -1", "plays 3 -1", "plays -1 3", "plays" + " 1" * 13, f"plays -{FORTY}",
                    "plays" + " -1" * 13):
            self.check([], row, NoTrain)
            self.check(["plays 3 2", "turn 9"], row, NoTrain)

    def test_no_train_leaves_no_train(self):
        desk = Desk()
        refusal_of(desk.say, "plays -1")
        self.assertIs(refusal_of(desk.say, "where"), NoRow)
        self.assertIs(refusal_of(desk.say, "back"), NothingLeft)

    def test_no_stand(self):
        for numbers in ("0 4 4", "0 -4 -4", "0 0 3", "0 0 -3", "0 0", "0 0 0 0", "9 0 0", f"{FORTY} 0 0"):
            for word in ("at", "least"):
                self.check(["plays 3 2", "turn 9"], f"{word} {numbers}", NoStand)

    def test_no_stand_of_bounds(self):
        for bounds in ("10 20", "-9 8", "20 10", "9 8", "10 9", "10 8", f"{FORTY} -{FORTY}", "0 0"):
            self.check(["plays 3 2", "turn 9"], f"range {bounds}", NoStand)
        for bounds in ("9 9", "8 9", "9 10"):
            self.check(["plays 3 2", "turn 9"], f"range {bounds}", None)

    def test_no_piece(self):
        for piece in (-2, -3, 2, 3, 99, FORTY, -FORTY):
            self.check(["plays 3 2", "turn 9"], f"grab {piece} 5", NoPiece)

    def test_nothing_left(self):
        desk = Desk()
        for time in range(3):
            self.assertIs(refusal_of(desk.say, "back"), NothingLeft)
        desk.say("plays 1")
        self.assertEqual(desk.say("back"), "ok")
        for time in range(3):
            self.assertIs(refusal_of(desk.say, "back"), NothingLeft)
        self.assertIs(refusal_of(desk.say, "where"), NoRow)
        desk.say("plays 2")
        self.assertEqual(desk.say("where"), "0 0")


class TakingBack(unittest.TestCase):
    DEEDS = ["plays 3 2", "turn 9 0", "grab 1 -9", "at 1 0 1", "turn 5 5", "turn 5", "plays 1", "turn 7", "grab 0 0",
             "at 0 1"]

    def test_each_deed_and_then_each_back(self):
        desk = Desk()
        for many, deed in enumerate(self.DEEDS, start=1):
            self.assertEqual(desk.say(deed), "ok")
            self.assertEqual(told_by(desk), PlainDesk(self.DEEDS[:many]).told(), deed)
        for many in reversed(range(1, len(self.DEEDS))):
            self.assertEqual(desk.say("back"), "ok")
            self.assertEqual(told_by(desk), PlainDesk(self.DEEDS[:many]).told(), self.DEEDS[many])
        self.assertEqual(desk.say("back"), "ok")
        self.assertEqual(told_by(desk), [NoRow] * 3)
        self.assertIs(refusal_of(desk.say, "back"), NothingLeft)

    def test_ways_behind_back(self):
        desk = desk_of("plays 1", "turn 9", "at 0 0", "turn 5")
        for answer in ("4", "0", "8", "0"):
            self.assertEqual(desk.say("ways"), answer)
            desk.say("back")

    def test_what_is_refused_is_not_taken_back(self):
        desk = desk_of("plays 1", "turn 9")
        for row in ("at 5 0", "grab 7 7", "plays -1", "turn x", "range 0 1"):
            self.assertIsNotNone(refusal_of(desk.say, row))
        desk.say("back")
        self.assertEqual(desk.say("where"), "0 0")

    def test_what_is_taken_back_was_never_done(self):
        for seed in range(12):
            most = (6, 60, FORTY // 4)[seed % 3]
            desk, kept = Desk(), []
            for step, choice in enumerate(mixed(seed, 150, 0, 11)):
                numbers = mixed(seed * 1000 + step, 4, -most, most)
                if choice < 3:
                    self.assertIs(refusal_of(desk.say, "back"), None if kept else NothingLeft)
                    kept = kept[:-1]
                else:
                    deed = self.a_deed(choice, numbers, kept)
                    self.assertEqual(desk.say(deed), "ok", deed)
                    kept.append(deed)
                self.assertEqual(told_by(desk), PlainDesk(kept).told() if kept else [NoRow] * 3)

    def a_deed(self, choice, numbers, kept):
        if not kept or choice == 3:
            return "plays " + words(abs(number) for number in numbers[:1 + numbers[0] % 4])
        if choice == 4:
            # A stand that it had already, or comes to.
            train = PlainDesk(kept + [f"turn {words(numbers)}"])
            return "at " + words([train.handle] + train.wheels)
        if choice < 8:
            return "turn " + words(numbers[:1 + numbers[0] % 4])
        return f"grab {numbers[0] % (len(PlainDesk(kept).wheels) + 1) - 1} {numbers[1]}"

    def test_hundreds_of_rows_then_as_many_back(self):
        desk, kept = desk_of("plays 3 2 1"), ["plays 3 2 1"]
        for step, place in enumerate(mixed(3, 600, -50, 50)):
            kept.append(f"turn {place}" if step % 3 else f"grab {step % 4 - 1} {place}")
            self.assertEqual(desk.say(kept[-1]), "ok")
        told = [PlainDesk(kept[:many]).told() for many in range(1, 602, 50)]
        for many in reversed(range(602)):
            if many % 50 == 1:
                self.assertEqual(told_by(desk), told[many // 50])
            if many:
                self.assertEqual(desk.say("back"), "ok")
        self.assertIs(refusal_of(desk.say, "back"), NothingLeft)

    def test_a_turn_of_two_thousand_places_is_one_deed(self):
        row = "turn " + words(mixed(8, 2000, -99, 99))
        desk = desk_of("plays 3 2", row)
        self.assertEqual(told_by(desk), PlainDesk(["plays 3 2", row]).told())
        desk.say("back")
        self.assertEqual(desk.say("where"), "0 0 0")


class ByTheOthers(unittest.TestCase):
    def test_least_range_and_text(self):
        for seed in range(60):
            most = (5, 50, FORTY // 20)[seed % 3]
            plays = mixed(seed, 1 + seed % 12, 0, most // 4)
            deeds = ["plays " + words(plays), "turn " + words(mixed(seed + 1, 6, -most, most))]
            desk, train = desk_of(*deeds), PlainDesk(deeds)
            goal = PlainDesk(deeds + ["turn " + words(mixed(seed + 2, 6, -most, most))])
            errand = (plays, train.handle, train.wheels, goal.handle, goal.wheels)
            self.assertEqual(desk.say("least " + words([goal.handle] + goal.wheels)),
                             words([least_of(*errand)] + least_row(*errand)))
            low, high = train.handle - seed, train.handle + 2 * seed
            depths = plain_depths(plays)
            ranges = [f"{min(at, low + depths[number])}:{max(at, high - depths[number])}"
                      for number, at in enumerate(train.wheels)]
            self.assertEqual(desk.say(f"range {low} {high}"), " ".join(ranges))
            self.assertEqual(read(desk.say("text")), (plays, train.handle, train.wheels))

    def test_a_text_told_is_set_down_again(self):
        desk = desk_of("plays 3 2", "turn 9 0")
        again = Desk()
        for row in desk.say("text").split("\n"):
            self.assertEqual(again.say(row), "ok")
        self.assertEqual(again.say("where"), desk.say("where"))

    def test_the_told_row_leads_to_the_goal_by_the_told_way(self):
        desk = desk_of("plays 3 2 4", "turn 9 -3 5")
        way, *row = desk.say("least 0 -3 -1 2").split()
        desk.say("turn " + " ".join(row))
        self.assertEqual(desk.say("where"), "0 -3 -1 2")
        self.assertEqual(int(way), sum(abs(int(to) - int(at)) for at, to in zip(["5"] + row, row)))


class TwoDesks(unittest.TestCase):
    def test_they_do_not_touch_each_other(self):
        one, other = Desk(), Desk()
        one.say("plays 3 2")
        self.assertIs(refusal_of(other.say, "where"), NoRow)
        self.assertIs(refusal_of(other.say, "back"), NothingLeft)
        other.say("plays 3 2")
        one.say("turn 9")
        self.assertEqual((one.say("where"), other.say("where")), ("9 6 4", "0 0 0"))
        other.say("grab 1 -9")
        one.say("back")
        self.assertEqual((one.say("where"), other.say("where")), ("0 0 0", "-4 -7 -9"))
        self.assertEqual((one.say("ways"), other.say("ways")), ("0 0", "7 9"))


if __name__ == "__main__":
    unittest.main()
