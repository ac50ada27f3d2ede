"""What is promised over the whole program: the interface, told lists, things handed in, refusals [1, 2, 3]."""

import copy
import importlib
import inspect
import unittest

from lugtrain import errors
from reckoning import SIXTY, refusal_of

# Of each module its names, and how many things are handed in by their places.
INTERFACE = {
    "trains": {"is_train": 1, "is_stand": 3, "dragged": 3, "turned": 4, "run_of": 4},
    "hung": {"depths_of": 1, "hung_row": 3, "way_of": 1},
    "returns": {"turning_of": 1, "standing_of": 1},
    "swings": {"swings_of": 1, "wheel_way": 3},
    "papers": {"must_place": 4, "is_paper": 6, "weight_of": 6},
    "errands": {"paper_of": 5, "least_row": 5, "least_of": 5},
    "switches": {"Switch": 2, "Box": 2},
    "boxes": {"returns_of": 2, "weights_of": 1, "answers_of": 3, "teller_of": 3, "wheel_box": 2},
    "texts": {"read": 1, "shown": 3},
    "desk": {"Desk": 0},
    "walkers": {"Walker": 3},
    "grabs": {"grabbed": 5, "grabs_of": 4},
    "bounds": {"ranges_of": 5, "stands_within": 5},
    "sums": {"added": 3, "multiplied": 3, "alike_rows": 3},
    "rounds": {"round_way": 4, "best_round": 4},
}

METHODS = {
    "Switch": {"turn": 1, "on": 0},
    "Box": {"turn": 1, "answer": 0, "lit": 0, "place": 0, "anew": 0},
    "Desk": {"say": 1},
    "Walker": {"go": 1, "back": 0, "handle": 0, "wheels": 0, "ways": 0},
}

STAND = ([3, 2], 0, [1, 2])
STILL = ([3, 2], 4, [4, 4])
SWITCHES = [(0, 2, 5), (1, 3, 7)]
ROW = [0, 5, -3, 4, 4, 1]

# Of each name things to hand in, among them such as leave all as it is, where a list could be told as it was handed in.
ASKED = {
    "is_train": [([3, 2],)],
    "is_stand": [STAND],
    "dragged": [(3, 0, 9)],
    "turned": [(*STAND, 9), (*STILL, 4)],
    "run_of": [(*STAND, ROW), (*STILL, [4, 4, 4]), (*STILL, [])],
    "depths_of": [([3, 2],), ([3],), ([0, 0],)],
    "hung_row": [(2, 0, ROW), (0, 4, [4, 5])],
    "way_of": [(ROW,)],
    "turning_of": [(ROW,), ([],), ([4],), ([4, 5],), ([4, 5, 4],)],
    "standing_of": [(ROW,), ([],), ([4],), ([4, 5],), ([4, 6, 5],)],
    "swings_of": [(ROW,), ([],), ([4],), ([4, 5],), ([0, 8, 3, 9],)],
    "wheel_way": [(1, 0, ROW)],
    "must_place": [([3, 2], 0, [1, 2], (1, 1))],
    "is_paper": [(*STAND, 0, [0, 0], [(1, -1)]), (*STAND, 0, [0, 0], [])],
    "weight_of": [(*STAND, 0, [0, 0], [(1, -1)]), (*STAND, 0, [0, 0], [])],
    "paper_of": [(*STAND, 0, [0, 0]), (*STAND, 0, [1, 2])],
    "least_row": [(*STAND, 0, [0, 0]), (*STAND, 0, [1, 2])],
    "least_of": [(*STAND, 0, [0, 0])],
    "returns_of": [(3, SWITCHES), (3, [])],
    "weights_of": [([[0], [0, 5], [0, 5, 12]],), ([[0], [0, 0]],)],
    "answers_of": [(3, SWITCHES, [3, 1, 0]), (3, SWITCHES, [0, 0]), (3, [], [])],
    "teller_of": [(3, SWITCHES, []), (3, SWITCHES, SWITCHES)],
    "wheel_box": [(1, 6)],
    "read": [("plays 3 2\nat 0 1 2",)],
    "shown": [STAND],
    "grabbed": [(*STAND, 1, 9), (*STILL, -1, 4), (*STILL, 1, 4)],
    "grabs_of": [(*STAND, [(1, 9), (0, 0)]), (*STILL, [(-1, 4), (0, 4), (0, 4)]), (*STILL, [])],
    "ranges_of": [(*STAND, -9, 9)],
    "stands_within": [(*STAND, -2, 2), (*STILL, 4, 4)],
    "added": [(3, SWITCHES, [(1, 3, 1)]), (3, SWITCHES, []), (3, SWITCHES, SWITCHES)],
    "multiplied": [(3, SWITCHES, 2), (3, SWITCHES, 1)],
    "alike_rows": [(3, [3, 1], [3, 2, 1]), (3, [3, 1], [3, 1])],
    "round_way": [(*STAND, [(0, [0, 0]), (0, [1, 2])])],
    "best_round": [(*STAND, [(0, [0, 0]), (0, [1, 2])]), (*STAND, [])],
}

NO_TRAIN = ([3, -1], 0, [99])
NO_STAND = ([3, 2], 0, [4, 0])
NO_SWITCH = [(0, 1, 5), (2, 4, 5)]

# Refusals, all that is wrong there ordered as the document tells: what comes first is what is raised.
REFUSED = [
    ("is_stand", NO_TRAIN, "NoTrain"),
    ("turned", (*NO_TRAIN, 9), "NoTrain"),
    ("turned", (*NO_STAND, 9), "NoStand"),
    ("run_of", (*NO_TRAIN, []), "NoTrain"),
    ("run_of", (*NO_STAND, []), "NoStand"),
    ("depths_of", ([],), "NoTrain"),
    ("wheel_way", (1, 2, ROW), "NoStand"),
    ("wheel_way", (1, 2, []), "NoStand"),
    ("must_place", ([3, -1], 0, [99], (1, 1)), "NoTrain"),
    ("must_place", ([3, 2], 0, [99], (1, 1)), "NoStand"),
    ("is_paper", (*NO_TRAIN, 0, [99], [(9, 9)]), "NoTrain"),
    ("is_paper", (*NO_STAND, 0, [99], [(9, 9)]), "NoStand"),
    ("is_paper", (*STAND, 0, [99], [(9, 9)]), "NoStand"),
    ("weight_of", (*NO_TRAIN, 0, [99], [(9, 9)]), "NoTrain"),
    ("weight_of", (*NO_STAND, 0, [99], [(9, 9)]), "NoStand"),
    ("weight_of", (*STAND, 0, [99], [(9, 9)]), "NoStand"),
    ("weight_of", (*STAND, 0, [0, 0], [(9, 9)]), "NoPaper"),
    ("paper_of", (*NO_TRAIN, 0, [99]), "NoTrain"),
    ("paper_of", (*NO_STAND, 0, [0, 0]), "NoStand"),
    ("paper_of", (*STAND, 0, [99]), "NoStand"),
    ("least_row", (*NO_TRAIN, 0, [99]), "NoTrain"),
    ("least_row", (*STAND, 0, [99]), "NoStand"),
    ("least_of", (*NO_TRAIN, 0, [99]), "NoTrain"),
    ("least_of", (*STAND, 0, [99]), "NoStand"),
    ("Switch", (3, 3), "NoSwitch"),
    ("Box", (0, NO_SWITCH), "NoBox"),
    ("Box", (3, NO_SWITCH), "NoSwitch"),
    ("returns_of", (17, NO_SWITCH), "NoBox"),
    ("returns_of", (3, NO_SWITCH), "NoSwitch"),
    ("weights_of", ([[0], [1, 0]],), "NoTable"),
    ("answers_of", (0, NO_SWITCH, [9]), "NoBox"),
    ("answers_of", (3, NO_SWITCH, [9]), "NoSwitch"),
    ("answers_of", (3, SWITCHES, [9]), "NoPlace"),
    ("teller_of", (0, NO_SWITCH, NO_SWITCH), "NoBox"),
    ("teller_of", (3, NO_SWITCH, SWITCHES), "NoSwitch"),
    ("teller_of", (3, SWITCHES, NO_SWITCH), "NoSwitch"),
    ("read", ("plays -1\nat 0 99 x",), "NoText"),
    ("read", ("plays -1\nat 0 99",), "NoTrain"),
    ("read", ("plays 1\nat 0 99",), "NoStand"),
    ("shown", NO_TRAIN, "NoTrain"),
    ("shown", NO_STAND, "NoStand"),
    ("Walker", NO_TRAIN, "NoTrain"),
    ("Walker", NO_STAND, "NoStand"),
    ("grabbed", (*NO_TRAIN, 9, 0), "NoTrain"),
    ("grabbed", (*NO_STAND, 9, 0), "NoStand"),
    ("grabbed", (*STAND, 9, 0), "NoPiece"),
    ("grabs_of", (*NO_TRAIN, [(9, 0)]), "NoTrain"),
    ("grabs_of", (*NO_STAND, [(9, 0)]), "NoStand"),
    ("grabs_of", (*STAND, [(1, 0), (9, 0)]), "NoPiece"),
    ("ranges_of", (*NO_TRAIN, 9, 5), "NoTrain"),
    ("ranges_of", (*NO_STAND, 9, 5), "NoStand"),
    ("ranges_of", (*STAND, 9, 5), "NoStand"),
    ("stands_within", (*NO_TRAIN, -SIXTY, SIXTY), "NoTrain"),
    ("stands_within", (*NO_STAND, -SIXTY, SIXTY), "NoStand"),
    ("stands_within", (*STAND, 1, SIXTY), "NoStand"),
    ("stands_within", (*STAND, -SIXTY, SIXTY), "TooMany"),
    ("added", (0, NO_SWITCH, NO_SWITCH), "NoBox"),
    ("added", (3, NO_SWITCH, SWITCHES), "NoSwitch"),
    ("added", (3, SWITCHES, NO_SWITCH), "NoSwitch"),
    ("multiplied", (0, NO_SWITCH, 0), "NoBox"),
    ("multiplied", (3, NO_SWITCH, 0), "NoSwitch"),
    ("alike_rows", (0, [9], [9]), "NoBox"),
    ("alike_rows", (3, [9], [1]), "NoPlace"),
    ("alike_rows", (3, [1], [9]), "NoPlace"),
    ("round_way", (*NO_TRAIN, [(0, [99])]), "NoTrain"),
    ("round_way", (*NO_STAND, []), "NoStand"),
    ("round_way", (*STAND, [(0, [99])]), "NoStand"),
    ("best_round", (*NO_TRAIN, [(0, [99])]), "NoTrain"),
    ("best_round", (*NO_STAND, []), "NoStand"),
    ("best_round", (*STAND, [(0, [99])]), "NoStand"),
]


def named(name):
    """What bears this name in the interface."""
    home = [module for module in INTERFACE if name in INTERFACE[module]]
    return getattr(importlib.import_module("lugtrain." + home[0]), name)


def lists_in(thing):
    """Every list that the thing is or bears, however deep."""
    if not isinstance(thing, (list, tuple)):
        return []
    return [thing] * isinstance(thing, list) + [found for part in thing for found in lists_in(part)]


def all_asked():
    return [(name, things) for name in ASKED for things in ASKED[name]]


def takes(asked, many):
    """Whether so many things can be handed in by their places, no fewer and no more."""
    signature = inspect.signature(asked)
    plain = [one for one in signature.parameters.values() if one.kind == one.POSITIONAL_OR_KEYWORD]
    needed = [one for one in plain if one.default is one.empty]
    return len(signature.parameters) == len(plain) == len(needed) == many


class Interface(unittest.TestCase):
    def test_each_name_is_there_with_its_arguments(self):
        for module in INTERFACE:
            for name, many in INTERFACE[module].items():
                self.assertTrue(takes(named(name), many), (module, name))

    def test_each_method_is_there_with_its_arguments(self):
        for name in METHODS:
            for method, many in METHODS[name].items():
                # The object itself is one more.
                self.assertTrue(takes(getattr(named(name), method), many + 1), (name, method))

    def test_each_of_them_is_asked_here(self):
        names = {name for module in INTERFACE for name in INTERFACE[module]}
        self.assertEqual(set(ASKED) | set(METHODS), names)


class Lists(unittest.TestCase):
    def test_nothing_handed_in_is_changed(self):
        for name, things in all_asked():
            handed = copy.deepcopy(things)
            named(name)(*handed)
            self.assertEqual(handed, things, name)

    def test_nothing_handed_in_is_changed_by_a_refusal(self):
        for name, things, refusal in REFUSED:
            handed = copy.deepcopy(things)
            self.assertIsNotNone(refusal_of(named(name), *handed), name)
            self.assertEqual(handed, things, name)

    def test_every_told_list_is_a_new_one(self):
        for name, things in all_asked():
            handed = copy.deepcopy(things)
            told, again = named(name)(*handed), named(name)(*handed)
            lists = lists_in(told) + lists_in(again)
            self.assertEqual(len({id(one) for one in lists}), len(lists), (name, things))
            for one in lists_in(handed):
                self.assertNotIn(id(one), [id(own) for own in lists], (name, things))

    def test_told_lists_spoilt_are_told_again_as_before(self):
        for name, things in all_asked():
            handed = copy.deepcopy(things)
            told = named(name)(*handed)
            expected = copy.deepcopy(told)
            for one in lists_in(told):
                one.append("spoilt")
                one.reverse()
            self.assertEqual(handed, things, name)
            self.assertEqual(named(name)(*handed), expected, name)

    def test_things_handed_in_spoilt_afterwards_spoil_nothing_told(self):
        for name, things in all_asked():
            handed = copy.deepcopy(things)
            told = named(name)(*handed)
            expected = copy.deepcopy(told)
            for one in lists_in(handed):
                one.clear()
            self.assertEqual(told, expected, name)
            self.assertEqual(named(name)(*copy.deepcopy(things)), expected, name)

    def test_objects_keep_copies_of_their_own(self):
        switches, plays, wheels = [(0, 2, 5), (1, 3, 7)], [3, 2], [0, 0]
        box, walker = named("Box")(3, switches), named("Walker")(plays, 0, wheels)
        for thing in (switches, plays, wheels):
            thing.clear()
        self.assertEqual((box.turn(3), box.lit()), (12, [0, 1]))
        self.assertEqual((walker.go(9), walker.wheels(), walker.ways()), ([6, 4], [6, 4], [6, 4]))
        for told in (box.lit(), walker.go(9), walker.wheels(), walker.ways()):
            told.clear()
        self.assertEqual((box.lit(), walker.wheels(), walker.ways()), ([0, 1], [6, 4], [6, 4]))


class Refusals(unittest.TestCase):
    def test_each_by_its_own_class(self):
        for name, things, refusal in REFUSED:
            self.assertIs(refusal_of(named(name), *copy.deepcopy(things)), getattr(errors, refusal), (name, things))

    def test_those_of_objects(self):
        box, walker, desk = named("Box")(3, SWITCHES), named("Walker")(*STAND), named("Desk")()
        for asked, things, refusal in (
            (box.turn, [4], "NoPlace"), (walker.back, [], "NothingLeft"), (desk.say, ["where"], "NoRow"),
            (desk.say, ["back"], "NothingLeft"), (desk.say, ["plays -1"], "NoTrain"),
        ):
            self.assertIs(refusal_of(asked, *things), getattr(errors, refusal), refusal)
        desk.say("plays 3 2")
        for row, refusal in (("at 0 9 9", "NoStand"), ("least 0 9 9", "NoStand"), ("range 1 2", "NoStand"),
                             ("grab 2 0", "NoPiece"), ("grab 2", "NoRow")):
            self.assertIs(refusal_of(desk.say, row), getattr(errors, refusal), row)

    def test_every_class_is_raised_somewhere(self):
        raised = {refusal for name, things, refusal in REFUSED} | {"NoRow", "NothingLeft"}
        under = {name for name, kind in vars(errors).items()
                 if isinstance(kind, type) and issubclass(kind, errors.TrainError) and kind is not errors.TrainError}
        self.assertEqual(raised, under)

    def test_what_is_asked_here_is_not_refused(self):
        for name, things in all_asked():
            self.assertIsNone(refusal_of(named(name), *copy.deepcopy(things)), (name, things))


if __name__ == "__main__":
    unittest.main()
