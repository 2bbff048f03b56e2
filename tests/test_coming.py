"""[70] and [71]: wishes that can come."""

import copy
import random
import unittest

from rowqueue.coming import can_come, is_ranked, is_trap
from rowqueue.machine import play, start, step
from tests.anything import THINGS
from tests.cases import Case, scene_of
from tests.search import QUIET, meets, small_scenes, variants

WISHES = ["effect", "settled"]


def ranks_there(search, wish):
    """For each state the least number of quiet deeds to a state that meets the wish, by a search from each."""
    found = {}
    for state in search.states():
        near, number = {state}, 0
        far = set(near)
        while near and not any(meets(wish, one) for one in near):
            near = {after for one in near for after in search.quiet_from(one)} - far
            far |= near
            number += 1
        found[state] = number if near else None
    return found


def quiet_area(search, state):
    found, waiting = {state}, [state]
    while waiting:
        new = set(search.quiet_from(waiting.pop())) - found
        found |= new
        waiting.extend(new)
    return sorted(found)


def is_ranked_there(scene, wish, thing):
    """[71] again, for a list of tuples of states and integers."""
    states = [state for state, _ in thing]
    if len(set(states)) < len(states) or start(scene) not in states:
        return False
    ranks = dict(thing)
    for state, number in thing:
        after = [(deed[0], step(scene, state, deed)[0]) for deed in scene.deeds()]
        if any(one not in ranks for _, one in after):
            return False
        quiet = [ranks[one] for word, one in after if word in QUIET]
        if (number == 0) != meets(wish, state):
            return False
        if number != 0 and (number - 1 not in quiet or min(quiet) < number - 1):
            return False
    return True


class CanCome(Case):
    def test_beside_a_search(self):
        counts = {(wish, word): 0 for wish in WISHES for word in ("holds", "breaks")}
        for scene, search in small_scenes(61, 250):
            for wish in WISHES:
                ranks = ranks_there(search, wish)
                lost = [state for state in search.states() if ranks[state] is None]
                wanted = ("holds", sorted(ranks.items()))
                if lost:
                    wanted = ("breaks", search.weavings[lost[0]], quiet_area(search, lost[0]))
                counts[wish, wanted[0]] += 1
                many = len(ranks)
                self.assertEqual(can_come(scene, wish), wanted, (scene.setting, scene.rows()))
                self.assertEqual(can_come(scene, wish, most=many), wanted)
                if many > 1:
                    self.too_many(many - 1, can_come, scene, wish)
        self.assertGreater(min(counts.values()), 40)

    def test_each_wish(self):
        # A dead row is settled, but has no effect.
        scene = scene_of("tries 1", may=("crash",))
        self.assertEqual(can_come(scene, "settled")[0], "holds")
        self.assertEqual(can_come(scene, "effect")[:2], ("breaks", [("part", 0), ("crash", 0)]))
        # An effect is not enough to be settled.
        scene = scene_of("hold ever", may=("crash",))
        self.assertEqual(can_come(scene, "settled")[1], [("part", 0), ("crash", 0)])
        self.assertEqual(can_come(scene, "effect")[1], [("part", 0), ("crash", 0)])

    def test_rows_that_have_not_come(self):
        scene = scene_of(rows=[("a", 0, "late"), ("b", 0, 0)])
        word, numbers = can_come(scene, "effect")
        self.assertEqual(word, "holds")
        self.assertEqual(dict(numbers)[start(scene)], 0)
        behind = step(scene, start(scene), ("put", 0))[0]
        self.assertEqual([dict(numbers)[behind], dict(can_come(scene, "settled")[1])[behind]], [2, 3])

    def test_only_quiet_deeds_lead_there(self):
        # With a give of the row by hand it could be taken again, but a give is not quiet.
        lines = ["hold ever", "plan take check effect finish"]
        self.assertEqual(can_come(scene_of(*lines, may=("give",)), "settled")[0], "holds")
        scene = scene_of("hold ever", workers=2, may=("crash", "fail", "give", "more"))
        self.assertEqual(can_come(scene, "settled")[1], [("part", 0), ("crash", 0)])
        # Slow is quiet, and so is put.
        self.assertEqual(can_come(scene_of(rows=[("a", 0, "late")]), "settled")[0], "holds")

    def test_most_is_1000_if_it_is_left_out(self):
        great = scene_of("hold 3", "once 3", workers=3)
        for wish in WISHES:
            self.too_many(1000, lambda scene, wish, most: can_come(scene, wish), great, wish)
            self.too_many(1629, can_come, great, wish)
            self.assertEqual(len(can_come(great, wish, most=1630)[1]), 1630)
            # It is the number of all reached states that counts, also if the wish breaks early.
            breaks = scene_of("hold ever", workers=2, may=("crash",))
            many = len(can_come(breaks, wish)[1])
            self.assertEqual(can_come(breaks, wish)[0], "breaks")
            self.too_many(many + 1, can_come, breaks, wish)

    def test_answers_are_the_callers(self):
        for scene in [scene_of(), scene_of("hold ever", may=("crash",))]:
            first = can_come(scene, "settled")
            self.assertIsInstance(first, tuple)
            before = copy.deepcopy(first)
            for part in first[1:]:
                part.clear()
            self.assertEqual(can_come(scene, "settled"), before)


class Ranked(Case):
    def test_what_can_come_returns(self):
        chance = random.Random(71)
        holding = 0
        for scene, search in small_scenes(62, 120, 60):
            for wish in WISHES:
                word, *things = can_come(scene, wish)
                if word == "breaks":
                    # [6]: one of both.
                    marks = ranks_there(search, wish)
                    for other in (0, 1, 9):
                        thing = [(state, other if mark is None else mark) for state, mark in marks.items()]
                        self.assertIs(is_ranked(scene, wish, thing), False)
                    continue
                holding += 1
                numbers = things[0]
                self.assertIs(is_ranked(scene, wish, numbers), True)
                self.assertIs(is_ranked(scene, wish, chance.sample(numbers, len(numbers))), True)
                self.assertIs(is_trap(scene, wish, [], sorted(search.weavings)), False)
                changed = list(variants(numbers))
                for thing in chance.sample(changed, min(len(changed), 80)):
                    wanted = isinstance(thing, list) and sorted(map(repr, thing)) == sorted(map(repr, numbers))
                    self.assertIs(is_ranked(scene, wish, thing), wanted, thing)
        self.assertGreater(holding, 60)

    def test_other_numbers(self):
        """Beside the words of [71]: also from other states than the first one, and with numbers by lot."""
        chance = random.Random(73)
        counts = {True: 0, False: 0}
        for scene, search in small_scenes(62, 120, 60):
            for wish in WISHES:
                marks = ranks_there(search, wish)
                thing = [(state, 3 if mark is None else mark) for state, mark in marks.items()]
                for _ in range(4):
                    at = chance.randrange(len(thing))
                    changed = list(thing)
                    changed[at] = (thing[at][0], thing[at][1] + chance.choice([-1, 0, 0, 1]))
                    wanted = is_ranked_there(scene, wish, changed)
                    counts[wanted] += 1
                    self.assertIs(is_ranked(scene, wish, changed), wanted)
        self.assertGreater(min(counts.values()), 100)

    def test_each_thing_changed(self):
        scene = scene_of("hold 1", "tries 2")
        numbers = can_come(scene, "settled")[1]
        for thing in variants(numbers):
            wanted = isinstance(thing, list) and sorted(map(repr, thing)) == sorted(map(repr, numbers))
            self.assertIs(is_ranked(scene, "settled", thing), wanted, thing)
        self.assertIs(is_ranked(scene, "effect", numbers), False)
        self.assertIs(is_ranked(scene, "settled", [list(item) for item in numbers]), False)
        self.assertIs(is_ranked(scene, "settled", [(state, number, 0) for state, number in numbers]), False)

    def test_states_that_are_not_reached(self):
        scene = scene_of("hold ever")
        numbers = can_come(scene, "settled")[1]
        dead = ((("dead", 0, 0, 0, 0),), ((),))
        self.assertIs(is_ranked(scene, "settled", numbers + [(dead, 0)]), True)
        for number in [1, -1, True, False, None, "0"]:
            self.assertIs(is_ranked(scene, "settled", numbers + [(dead, number)]), False)
        self.assertIs(is_ranked(scene, "effect", numbers + [(dead, 0)]), False)
        # From this one the wish cannot come, whatever number it has.
        held = ((("held", 0, 0, 0, 0),), ((),))
        for number in range(-3, 5):
            self.assertIs(is_ranked(scene, "settled", numbers + [(held, number)]), False)

    def test_a_deed_that_is_not_quiet(self):
        scene = scene_of("hold ever", may=("give",), workers=1)
        numbers = can_come(scene, "settled")[1]
        self.assertIs(is_ranked(scene, "settled", numbers), True)
        for state, number in numbers:
            others = [item for item in numbers if item[0] != state]
            self.assertIs(is_ranked(scene, "settled", others), False)
            self.assertIs(is_ranked(scene, "settled", others + [(state, number + 1)]), False)

    def test_any_value(self):
        for scene in [scene_of(), scene_of(workers=2), scene_of(rows=[("a", 0, "late")])]:
            for wish in WISHES:
                for thing in THINGS:
                    self.assertIs(is_ranked(scene, wish, thing), False)


class Trap(Case):
    def test_what_can_come_returns(self):
        chance = random.Random(72)
        breaking = 0
        for scene, search in small_scenes(61, 250):
            for wish in WISHES:
                word, *things = can_come(scene, wish)
                if word == "holds":
                    for state in chance.sample(search.states(), min(3, len(search.weavings))):
                        self.assertIs(is_trap(scene, wish, search.weavings[state], quiet_area(search, state)), False)
                    continue
                breaking += 1
                weaving, trap = things
                self.assertIs(is_trap(scene, wish, weaving, trap), True)
                self.assertIs(is_trap(scene, wish, weaving, trap[::-1]), True)
                self.assertIs(is_trap(scene, wish, weaving + [("tick",)], trap), True)
                for thing in chance.sample(trap, min(3, len(trap))):
                    smaller = [state for state in trap if state != thing]
                    wanted = self.is_trap_there(search, wish, weaving, smaller)
                    self.assertIs(is_trap(scene, wish, weaving, smaller), wanted)
                    self.assertIs(is_trap(scene, wish, weaving, trap + [thing]), False)
                # All states that are reached, those that meet the wish too.
                self.assertIs(is_trap(scene, wish, weaving, sorted(search.weavings)), self.none_meets(search, wish))
                for thing in chance.sample(list(variants(weaving)), 1 if weaving else 0):
                    wanted = self.is_weaving_there(scene, thing) and self.is_trap_there(search, wish, thing, trap)
                    self.assertIs(is_trap(scene, wish, thing, trap), wanted)
        self.assertGreater(breaking, 60)

    def none_meets(self, search, wish):
        return not any(meets(wish, state) for state in search.states())

    def is_weaving_there(self, scene, thing):
        deeds = [repr(deed) for deed in scene.deeds()]
        return isinstance(thing, list) and all(repr(deed) in deeds for deed in thing)

    def is_trap_there(self, search, wish, weaving, states):
        leads = all(after in states for state in states for after in search.quiet_from(state))
        return search.end_of(weaving) in states and leads and not any(meets(wish, state) for state in states)

    def test_each_thing_changed(self):
        scene = scene_of("hold ever", "pause 0 1", may=("crash",), workers=2)
        word, weaving, trap = can_come(scene, "settled")
        self.assertEqual(word, "breaks")
        for thing in variants(trap):
            wanted = isinstance(thing, list) and sorted(map(repr, thing)) == sorted(map(repr, trap))
            self.assertIs(is_trap(scene, "settled", weaving, thing), wanted, thing)
        for other in [None, 0, "", [None], tuple(weaving), [], weaving[:-1], weaving + [None], [("part", False)]]:
            self.assertIs(is_trap(scene, "settled", other, trap), False)
        self.assertIs(is_trap(scene, "settled", weaving, []), False)

    def test_more_than_the_trap(self):
        scene = scene_of("hold ever", may=("crash", "give"))
        word, weaving, trap = can_come(scene, "settled")
        lone = ((("held", 0, 0, 2, 0),), ((),))
        self.assertEqual([word, trap], ["breaks", [((("held", 0, 0, 0, 0),), ((),))]])
        # It may contain states that are not reached, and deeds that are not quiet may lead out of it.
        self.assertIs(is_trap(scene, "settled", weaving, trap + [lone]), True)
        self.assertIs(is_trap(scene, "effect", weaving, trap + [lone]), False)
        self.assertIs(is_trap(scene, "effect", weaving, trap), True)
        dead = ((("dead", 0, 0, 0, 0),), ((),))
        self.assertIs(is_trap(scene, "settled", weaving, trap + [dead]), False)
        self.assertIs(is_trap(scene, "effect", weaving, trap + [dead]), True)
        # A long weaving.
        self.assertIs(is_trap(scene, "settled", [("tick",)] * 20000 + weaving, trap), True)

    def test_any_value(self):
        scene = scene_of("hold ever", may=("crash",))
        _, weaving, trap = can_come(scene, "settled")
        for thing in THINGS:
            self.assertIs(is_trap(scene, "settled", weaving, thing), False)
            self.assertIs(is_trap(scene, "settled", thing, trap), False)
            self.assertIs(is_trap(scene, "settled", thing, thing), False)
        self.assertIs(is_trap(scene, "settled", [("tick",)] * 3, trap), False)


class Words(Case):
    def test_the_numbers_are_those_of_quiet_deeds(self):
        """From each state deeds that lower the number lead to the wish."""
        for scene, search in small_scenes(62, 120, 60)[:40]:
            for wish in WISHES:
                word, *things = can_come(scene, wish)
                if word == "holds":
                    ranks = dict(things[0])
                    for state, number in things[0]:
                        for left in range(number, 0, -1):
                            state = min(search.quiet_from(state), key=lambda after: ranks[after])
                            self.assertEqual(ranks[state], left - 1)
                        self.assertIs(meets(wish, state), True)
                else:
                    self.assertEqual(play(scene, things[0])[0] in things[1], True)


if __name__ == "__main__":
    unittest.main()
