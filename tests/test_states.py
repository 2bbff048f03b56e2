"""[41], [44]: which values are states of a scene, and which are weavings."""

import copy
import itertools
import random
import unittest

from rowqueue.machine import is_state, is_weaving, start
from rowqueue.scenes import Scene
from rowqueue.settings import Setting
from tests.samples import scene_by_lot, state_by_lot

PLACES = ["yet", "ready", "held", "done", "dead"]
OTHERS = [None, True, False, 0, 5, -1, 10**50, "", "held", b"", [], {}, {"a": 1}, set(), object()]
CHECKED = "plan take effect check finish"
ROW = ("held", 2, 0, 0, 0)
HAND = (1, 0, True, 0, 0)


def scene_of(*lines, rows=None, workers=1):
    return Scene(Setting(list(lines)), rows or [("a", 0, "here")], workers=workers)


class Rows(unittest.TestCase):
    def rows(self, *lines):
        """All rows that are part of a state, of a great many that are near."""
        scene = scene_of(*lines)
        numbers = [range(-1, 6), range(-1, 6), range(-1, 4), range(-1, 8)]
        near = itertools.product(PLACES + ["free", ""], *numbers)
        return [row for row in near if is_state(scene, ((row,), ((),)))]

    def wanted(self, ready, held, tries, memory):
        ticks = {"yet": [0], "ready": range(ready + 1), "held": held, "done": [0], "dead": [0]}
        found = []
        for place in PLACES:
            bounds = [ticks[place], range(tries + 1), range(3), range(memory + 1)]
            found.extend((place, *numbers) for numbers in itertools.product(*bounds))
        return found

    def test_bounds(self):
        self.assertEqual(self.rows(), self.wanted(0, [1, 2], 0, 0))
        self.assertEqual(self.rows("pause 3"), self.wanted(3, [1, 2], 0, 0))
        self.assertEqual(self.rows("pause 1 2"), self.wanted(2, [1, 2], 2, 0))
        self.assertEqual(self.rows("pause 0 0"), self.wanted(0, [1, 2], 2, 0))
        self.assertEqual(self.rows("hold 1", "tries 1"), self.wanted(0, [1], 1, 0))
        self.assertEqual(self.rows("hold 4", "tries 4"), self.wanted(0, [1, 2, 3, 4], 4, 0))
        self.assertEqual(self.rows("tries 1", "pause 0 3"), self.wanted(3, [1, 2], 1, 0))
        self.assertEqual(self.rows("tries 3", "pause 1 1"), self.wanted(1, [1, 2], 3, 0))
        self.assertEqual(self.rows("hold ever", "once 1"), self.wanted(0, [0], 0, 1))
        self.assertEqual(self.rows("hold link", "once 6", "tries 2"), self.wanted(0, [0], 2, 6))
        self.assertEqual(self.rows("once ever", "count fail"), self.wanted(0, [1, 2], 0, 0))

    def test_the_form_of_a_row(self):
        scene = scene_of("once 2", "tries 2")
        self.assertIs(is_state(scene, ((ROW,), ((),))), True)
        for row in OTHERS + [list(ROW), ROW[:4], ROW + (0,), (), ("held",), (ROW,), "held2", ROW * 18000]:
            self.assertIs(is_state(scene, ((row,), ((),))), False)
        for at in range(5):
            for thing in [None, True, False, "1", "", [1], (1,), b"held", ["held"], 10**50, -(10**50), {}, set()]:
                self.assertIs(is_state(scene, ((ROW[:at] + (thing,) + ROW[at + 1 :],), ((),))), False)
        for place in ["Held", "held ", "free", "busy", ""]:
            self.assertIs(is_state(scene, (((place, 0, 0, 0, 0),), ((),))), False)

    def test_each_row_counts(self):
        scene = scene_of(rows=[("a", 0, "here"), ("b", 0, "late"), ("c", 0, 0), ("d", 0, "here")])
        good = [("ready", 0, 0, 0, 0), ("yet", 0, 0, 0, 0), ("done", 0, 0, 2, 0), ("dead", 0, 0, 1, 0)]
        self.assertIs(is_state(scene, (tuple(good), ((),))), True)
        for at in range(4):
            bad = list(good)
            bad[at] = ("held", 0, 0, 0, 0)
            self.assertIs(is_state(scene, (tuple(bad), ((),))), False)
            self.assertIs(is_state(scene, (tuple(good[:at]), ((),))), False)
            self.assertIs(is_state(scene, (tuple(good + good[:1]), ((),))), False)


class Hands(unittest.TestCase):
    def hands(self, *lines, row=ROW):
        """All workers that are part of a state, of a great many that are near."""
        scene = scene_of(*lines)
        near = itertools.product(range(-1, 6), range(-1, 3), [False, True], range(-1, 9), range(-1, 4))
        return [hand for hand in near if is_state(scene, ((row,), (hand,)))]

    def wanted(self, points, clocks, fresh=(False, True)):
        """clocks gives the pairs (own, lag) of each point."""
        found = []
        for point in points:
            for truth in fresh:
                found.extend((point, 0, truth, own, lag) for own, lag in clocks(point))
        return found

    def clocks(self, last, most, slow):
        pairs = [(own, lag) for own in range(most + 1) for lag in range(slow + 1) if own + lag <= most]
        pairs = [(own, lag) for own, lag in pairs if own > 0 or lag == 0]
        return lambda point: pairs if point <= last else [(0, 0)]

    def test_points(self):
        for plan in ["effect+finish", "effect finish", "effect follow finish", "effect+follow finish"]:
            many = 1 + len(plan.split(" "))
            self.assertEqual(self.hands(f"plan take {plan}"), self.wanted(range(1, many), lambda point: [(0, 0)]))

    def test_clocks(self):
        for hold, margin, slow in itertools.product(range(1, 5), range(4), range(3)):
            most = max(hold - margin, 0) + slow
            found = self.hands(f"hold {hold}", f"margin {margin}", f"slow {slow}", CHECKED, row=("held", 1, 0, 0, 0))
            self.assertEqual(found, self.wanted([1, 2, 3], self.clocks(2, most, slow)))

    def test_clocks_without_a_number_or_a_check(self):
        row = ("held", 0, 0, 0, 0)
        for hold in ["hold ever", "hold link"]:
            found = self.hands(hold, "slow 2", CHECKED, row=row)
            self.assertEqual(found, self.wanted([1, 2, 3], lambda point: [(0, 0)]))
        self.assertEqual(self.hands("slow 2"), self.wanted([1, 2], lambda point: [(0, 0)]))

    def test_fresh_on_a_row_that_is_not_held(self):
        for place in PLACES:
            if place != "held":
                found = self.hands(row=(place, 0, 0, 0, 0))
                self.assertEqual(found, self.wanted([1, 2], lambda point: [(0, 0)], [False]))

    def test_fresh_behind_the_finish(self):
        # It cannot be reached, but the row is held, and no more is asked.
        self.assertEqual(self.hands("plan take finish effect"), self.wanted([1, 2], lambda point: [(0, 0)]))

    def test_two_that_are_fresh(self):
        scene = scene_of(rows=[("a", 0, "here"), ("b", 0, "here")], workers=3)
        hands = [(1, r, fresh, 0, 0) for r in range(2) for fresh in [False, True]] + [()]
        for three in itertools.product(hands, repeat=3):
            sure = [hand[1] for hand in three if hand and hand[2]]
            self.assertIs(is_state(scene, ((ROW, ROW), three)), len(sure) == len(set(sure)))
            self.assertIs(is_state(scene, ((ROW, ("ready", 0, 0, 0, 0)), three)), sure in ([], [0]))

    def test_the_form_of_a_hand(self):
        scene = scene_of()
        self.assertIs(is_state(scene, ((ROW,), (HAND,))), True)
        for hand in OTHERS + [list(HAND), HAND[:4], HAND + (0,), (1,), (HAND,), HAND * 18000, ((),)]:
            self.assertIs(is_state(scene, ((ROW,), (hand,))), False)
        for at in [0, 1, 3, 4]:
            for thing in [None, True, False, "1", [1], (1,), 10**50, -1, {}]:
                self.assertIs(is_state(scene, ((ROW,), (HAND[:at] + (thing,) + HAND[at + 1 :],))), False)
        for thing in [None, 0, 1, "True", "", [True], (), 10**50]:
            self.assertIs(is_state(scene, ((ROW,), ((1, 0, thing, 0, 0),))), False)
        self.assertIs(is_state(scene, ((ROW,), ((1, 1, False, 0, 0),))), False)

    def test_as_many_as_workers(self):
        for workers in [1, 2, 3]:
            scene = scene_of(workers=workers)
            for many in range(5):
                hands = (HAND,) + ((),) * (many - 1) if many else ()
                self.assertIs(is_state(scene, ((ROW,), hands)), many == workers)
                bad = ((),) * (many - 1) + ([],) if many else ()
                self.assertIs(is_state(scene, ((ROW,), bad)), False)


class States(unittest.TestCase):
    def test_forms(self):
        scene = scene_of()
        self.assertIs(is_state(scene, start(scene)), True)
        good = ((ROW,), (HAND,))
        for thing in OTHERS + [(), (good,), good[:1], good + ((),), list(good), [[ROW], [HAND]], (good[1], good[0])]:
            self.assertIs(is_state(scene, thing), False)
        for thing in OTHERS + [list(good[0]), ROW, ((ROW,),), (), (ROW,) * 90]:
            self.assertIs(is_state(scene, (thing, good[1])), False)
        for thing in OTHERS + [list(good[1]), HAND, ((HAND,),), (HAND,) * 90]:
            self.assertIs(is_state(scene, (good[0], thing)), False)
        self.assertIs(is_state(scene, (good[0], ())), False)
        self.assertIs(is_state(scene, ((ROW,) * 15000, good[1])), False)
        self.assertIs(is_state(scene, (good[0], ((),) * 80000)), False)

    def test_states_of_another_scene(self):
        one, other = scene_of(), scene_of("hold 1")
        state = ((ROW,), (HAND,))
        self.assertEqual([is_state(one, state), is_state(other, state)], [True, False])

    def test_what_was_passed_in_stays(self):
        scene = scene_of()
        for thing in [[[list(ROW)], [list(HAND)]], ((ROW,), ([1, {"a": [2]}],)), ((ROW,), (HAND,))]:
            before = copy.deepcopy(thing)
            is_state(scene, thing)
            is_weaving(scene, thing)
            self.assertEqual(thing, before)

    def test_by_lot(self):
        chance = random.Random(44)
        for _ in range(1500):
            scene, oracle = scene_by_lot(chance)
            rows, hands = state_by_lot(chance, oracle)
            self.assertIs(is_state(scene, (rows, hands)), True)
            self.assertIs(is_state(scene, (list(rows), hands)), False)
            self.assertIs(is_state(scene, (rows, list(hands))), False)
            self.assertIs(is_state(scene, (rows, hands, ())), False)


class Weavings(unittest.TestCase):
    def setUp(self):
        rows = [("a", 0, "here"), ("b", 0, "late"), ("c", 0, 0)]
        self.scene = Scene(Setting(), rows, workers=2, may=("crash", "give"))

    def test_deeds_of_the_scene(self):
        self.assertIs(is_weaving(self.scene, []), True)
        for deed in self.scene.deeds():
            self.assertIs(is_weaving(self.scene, [deed]), True)
        self.assertIs(is_weaving(self.scene, self.scene.deeds() * 2000), True)

    def test_one_bad_deed(self):
        for deed in OTHERS + [
            (),
            ("fail", 0),
            ("more", 1),
            ("slow", 0),
            ("put", 0),
            ("put", 2),
            ("put", 3),
            ("part", 2),
            ("part", -1),
            ("part", True),
            ("part", False),
            ("put", True),
            ("crash", False),
            ("part", "0"),
            ("part", None),
            ("part", [0]),
            ("part", (0,)),
            ("part", 10**50),
            ("part",),
            ("part", 0, 0),
            ("tick", 0),
            ("tick",) * 2,
            ["tick"],
            ["part", 0],
            "tick",
            "part 0",
            (["tick"],),
            (("tick",),),
            ("Tick",),
            ("tick ",),
            (b"tick",),
            ({},),
            ("tick",) * 40000,
        ]:
            self.assertIs(is_weaving(self.scene, [deed]), False)
            self.assertIs(is_weaving(self.scene, [("tick",), deed]), False)
            self.assertIs(is_weaving(self.scene, [("tick",)] * 3000 + [deed] + [("part", 0)]), False)

    def test_what_is_no_list(self):
        for thing in OTHERS:
            if thing != []:
                self.assertIs(is_weaving(self.scene, thing), False)
        for thing in [(), (("tick",),), ("tick",), tuple(self.scene.deeds()), {("tick",): 1}, "tick"]:
            self.assertIs(is_weaving(self.scene, thing), False)

    def test_deeds_of_another_scene(self):
        more = Scene(Setting(["slow 1", CHECKED]), [("a", 0, "late")], workers=3, may=("crash", "fail", "give", "more"))
        mine = self.scene.deeds()
        for deed in more.deeds():
            self.assertIs(is_weaving(self.scene, [deed]), deed in mine)
            self.assertIs(is_weaving(more, [deed]), True)


if __name__ == "__main__":
    unittest.main()
