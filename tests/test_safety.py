"""[60] to [62], and [6] and [7] for these promises."""

import copy
import itertools
import random
import unittest

from rowqueue.errors import TooMany
from rowqueue.machine import is_state, play, start, step
from rowqueue.safety import check, is_bad, is_breach, is_closed, reached
from rowqueue.scenes import Scene
from rowqueue.settings import Setting
from tests.anything import THINGS
from tests.cases import ONE, Case
from tests.samples import ACCIDENTS, lines_by_lot, rows_by_lot, scene_by_lot, state_by_lot
from tests.search import is_bad as is_bad_there
from tests.search import small_scenes, variants

PROMISES = ["twice", "two", "order", "gone"]
TWICE = [("part", 0), ("part", 0), ("tick",), ("tick",), ("part", 1), ("part", 1)]


def scene_of(*lines, rows=ONE, workers=2, may=(), prompt=False):
    return Scene(Setting(list(lines)), list(rows), workers=workers, may=may, prompt=prompt)


def row(place, effects=0):
    return (place, 1 if place == "held" else 0, 0, effects, 0)


class Bad(Case):
    def bad(self, scene, promise, rows, hands, wanted):
        state = (tuple(rows), tuple(hands))
        self.assertIs(is_state(scene, state), True)
        self.assertIs(is_bad(scene, promise, state), wanted)

    def test_twice(self):
        scene = scene_of(rows=ONE + [("b", 0, "late")], workers=1)
        for place in ["ready", "held", "done", "dead", "yet"]:
            for first, second in itertools.product(range(3), repeat=2):
                rows = [row(place, first), row("ready", second)]
                self.bad(scene, "twice", rows, [()], first == 2 or second == 2)

    def test_two(self):
        plan = "plan take check effect finish"
        scene = scene_of(plan, rows=ONE + [("b", 0, "here")], workers=3)
        rows = [row("held"), row("held")]
        on = {r: (1, r, False, 1, 0) for r in range(2)}
        for hands, wanted in [
            ([on[0], on[0], ()], True),
            ([on[0], (), on[0]], True),
            ([(), on[1], on[1]], True),
            ([on[0], on[1], ()], False),
            ([on[0], (1, 0, False, 0, 0), ()], False),
            ([on[0], (2, 0, True, 0, 0), ()], True),
            ([on[0], (3, 0, True, 0, 0), ()], False),
            ([on[0], on[0], on[0]], True),
            ([(), (), ()], False),
            ([on[0], on[1], (2, 0, False, 0, 0)], True),
        ]:
            self.bad(scene, "two", rows, hands, wanted)
        # A worker that is not fresh does not come behind its finish, but with fence no.
        for fence, wanted in [("yes", False), ("no", True)]:
            scene = scene_of("plan take finish+effect", f"fence {fence}")
            self.bad(scene, "two", [row("held")], [(1, 0, True, 0, 0), (1, 0, False, 0, 0)], wanted)
            self.bad(scene, "two", [row("done")], [(1, 0, False, 0, 0), (1, 0, False, 0, 0)], wanted)

    def test_order(self):
        for key, wanted in [("a", True), ("b", False)]:
            scene = scene_of(rows=ONE + [(key, 0, "here"), ("c", 0, "late")], workers=1)
            for place in ["ready", "held", "done"]:
                self.bad(scene, "order", [row(place), row("done", 1), row("yet")], [()], wanted)
                self.bad(scene, "order", [row(place), row("held", 2), row("yet")], [()], wanted)
                self.bad(scene, "order", [row(place), row("held"), row("yet")], [()], False)
                self.bad(scene, "order", [row(place, 1), row("done", 1), row("yet")], [()], False)
                self.bad(scene, "order", [row("ready", 1), row(place), row("yet")], [()], False)
            for place in ["yet", "dead"]:
                self.bad(scene, "order", [row(place), row("done", 1), row("yet")], [()], False)

    def test_order_of_three(self):
        scene = scene_of(rows=[("a", 0, "here")] * 3, workers=1)
        for first, second, wanted in [("dead", "ready", True), ("ready", "dead", True), ("dead", "yet", False)]:
            self.bad(scene, "order", [row(first), row(second), row("ready", 1)], [()], wanted)

    def test_gone(self):
        scene = scene_of("plan take finish check effect", workers=2)
        able, late = (3, 0, False, 0, 0), (2, 0, False, 0, 0)
        for rows, hands, wanted in [
            ([row("done")], [(), ()], True),
            ([row("done", 1)], [(), ()], False),
            ([row("done")], [able, ()], False),
            ([row("done")], [(), able], False),
            ([row("done")], [late, ()], True),
            ([row("done")], [(2, 0, False, 1, 0), ()], False),
            # With fence yes it does not come behind its finish again.
            ([row("done")], [(1, 0, False, 1, 0), ()], True),
            ([row("held")], [(), ()], False),
            ([row("ready")], [(), ()], False),
            ([row("dead")], [(), ()], False),
            ([row("yet")], [(), ()], False),
        ]:
            self.bad(scene, "gone", rows, hands, wanted)
        scene = scene_of("plan take finish effect", rows=ONE + [("b", 0, "here")])
        # A worker that is able on another row is none.
        self.bad(scene, "gone", [row("done"), row("done")], [(2, 0, False, 0, 0), (2, 0, False, 0, 0)], True)
        self.bad(scene, "gone", [row("done"), row("done")], [(2, 0, False, 0, 0), (2, 1, False, 0, 0)], False)

    def test_beside_the_second_machine(self):
        chance = random.Random(60)
        counts = {(promise, wanted): 0 for promise in PROMISES for wanted in (True, False)}
        for _ in range(4000):
            scene, oracle = scene_by_lot(chance)
            state = state_by_lot(chance, oracle)
            before = copy.deepcopy(state)
            for promise in PROMISES:
                wanted = is_bad_there(oracle, promise, state)
                counts[promise, wanted] += 1
                self.assertIs(is_bad(scene, promise, state), wanted, (scene.setting, scene.rows(), state))
            self.assertEqual(state, before)
        self.assertGreater(min(counts.values()), 100)


class Reached(Case):
    def test_beside_a_search(self):
        for scene, search in small_scenes(61, 250):
            states = reached(scene)
            self.assertEqual(states, sorted(search.weavings))
            self.assertEqual(reached(scene, most=len(states)), states)
            if len(states) > 1:
                self.too_many(len(states) - 1, reached, scene)

    def test_one_state(self):
        scene = scene_of(rows=[("a", 0, "late"), ("b", 0, 0)], workers=1)
        self.too_many(1, reached, scene)
        states = reached(scene)
        self.assertIn(start(scene), states)
        states.clear()
        self.assertGreater(len(reached(scene)), 1)

    def test_most_is_1000_if_it_is_left_out(self):
        great = scene_of("hold 4", "slow 2", "plan take check effect finish", "pause 1 3", workers=3)
        self.too_many(1000, lambda scene, most: reached(scene), great)
        self.too_many(1000, lambda scene, most: check(scene, "gone"), great)
        self.too_many(2000, reached, great)
        # A scene with 1,000 to 2,000 states.
        scene = scene_of("hold 3", "once 3", workers=3)
        many = len(reached(scene, most=2000))
        self.assertGreater(many, 1000)
        self.assertEqual(len(reached(scene, most=many)), many)
        self.too_many(many - 1, reached, scene)
        self.too_many(1000, lambda scene, most: reached(scene), scene)


class Check(Case):
    def test_in_the_order_of_meeting(self):
        seen = {True: 0, False: 0}
        for scene, search in small_scenes(61, 250):
            states = search.states()
            for promise in PROMISES:
                bad = [at for at, state in enumerate(states) if is_bad_there(search.oracle, promise, state)]
                seen[bool(bad)] += 1
                met = bad[0] + 1 if bad else len(states)
                wanted = ("breaks", search.weavings[states[bad[0]]]) if bad else ("holds", sorted(states))
                self.assertEqual(check(scene, promise, most=met), wanted)
                self.assertEqual(check(scene, promise), wanted)
                if met > 1:
                    # A bad state counts as well.
                    self.too_many(met - 1, check, scene, promise)
        self.assertGreater(min(seen.values()), 100)

    def test_the_least_of_the_shortest_weavings(self):
        """Beside all weavings, the shorter ones first."""
        for lines, may in [([], ()), (["plan take finish effect"], ("crash",)), (["hold link"], ("crash", "give"))]:
            scene = scene_of(*lines, may=may)
            for promise in PROMISES:
                found = check(scene, promise)
                wanted = self.first_breach(scene, promise, 5)
                if wanted is not None:
                    self.assertEqual(found, ("breaks", wanted))
                elif found[0] == "breaks":
                    self.assertGreater(len(found[1]), 5)

    def first_breach(self, scene, promise, longest):
        for many in range(longest + 1):
            for weaving in itertools.product(scene.deeds(), repeat=many):
                if is_bad(scene, promise, play(scene, list(weaving))[0]):
                    return list(weaving)
        return None

    def test_each_promise(self):
        self.assertEqual(check(scene_of(), "twice"), ("breaks", TWICE))
        self.assertEqual(check(scene_of(), "two"), ("breaks", TWICE[1:4] + TWICE[4:5]))
        rows = [("a", 0, "here"), ("a", 0, "here")]
        weaving = [("part", 0), ("part", 1), ("part", 1)]
        self.assertEqual(check(scene_of(rows=rows), "order"), ("breaks", weaving))
        self.assertEqual(check(scene_of("order key", "hold ever", rows=rows), "order")[0], "holds")
        weaving = [("part", 0), ("part", 0), ("crash", 0)]
        self.assertEqual(check(scene_of("plan take finish effect", may=("crash",)), "gone"), ("breaks", weaving))
        self.assertEqual(check(scene_of(), "gone")[0], "holds")

    def test_answers_are_the_callers(self):
        for promise in ["twice", "gone"]:
            first = check(scene_of(), promise)
            self.assertIsInstance(first, tuple)
            before = copy.deepcopy(first)
            first[1].clear()
            self.assertEqual(check(scene_of(), promise), before)


class Closed(Case):
    def test_what_check_returns(self):
        holding = 0
        chance = random.Random(63)
        for scene, search in small_scenes(62, 120, 60):
            for promise in PROMISES:
                word, states = check(scene, promise)
                if word == "breaks":
                    # [6]: never both.
                    self.assertIs(is_closed(scene, promise, sorted(search.weavings)), False)
                    continue
                holding += 1
                self.assertIs(is_closed(scene, promise, states), True)
                self.assertEqual(states, check(scene, promise)[1])
                changed = list(variants(states))
                for thing in chance.sample(changed, min(len(changed), 60)):
                    self.assertIs(is_closed(scene, promise, thing), False, thing)
        self.assertGreater(holding, 100)

    def test_each_thing_changed(self):
        scene = scene_of("hold 1", "plan take check effect+finish", "slow 1", workers=1)
        states = check(scene, "twice")[1]
        for thing in variants(states):
            self.assertIs(is_closed(scene, "twice", thing), False, thing)
        for mixed in [states[::-1], states[1:] + states[:1], states + states[-1:], [], states[:1], tuple(states)]:
            self.assertIs(is_closed(scene, "twice", mixed), False)

    def test_states_that_are_not_reached(self):
        scene = scene_of("hold ever", workers=1)
        states = check(scene, "twice")[1]
        # The row is dead, although none can die here: nothing leads out of it.
        more = sorted(states + [((row("dead"),), ((),))])
        self.assertIs(is_closed(scene, "twice", more), True)
        self.assertIs(is_closed(scene, "gone", more), True)
        # A state that leads to others, which are missing; a bad one; one that is none.
        self.assertIs(is_closed(scene, "twice", sorted(states + [((("held", 0, 0, 1, 0),), ((),))])), True)
        self.assertIs(is_closed(scene, "twice", sorted(states + [((("ready", 0, 0, 1, 0),), ((),))])), False)
        self.assertIs(is_closed(scene, "twice", sorted(states + [((row("dead", 2),), ((),))])), False)
        self.assertIs(is_closed(scene, "two", sorted(states + [((row("dead", 2),), ((),))])), True)
        self.assertIs(is_closed(scene, "twice", sorted(states + [((row("gone"),), ((),))])), False)
        self.assertIs(is_closed(scene, "twice", sorted(states + [((row("dead", 3),), ((),))])), False)

    def test_the_first_state_must_be_there(self):
        scene = scene_of(workers=1)
        alone = [((row("done", 1),), ((),))]
        self.assertIs(is_closed(scene, "twice", alone), False)
        scene = scene_of(rows=[("a", 0, "late")], workers=1)
        self.assertIs(is_closed(scene, "twice", [start(scene)]), False)

    def test_any_value(self):
        for scene in [scene_of(), scene_of(workers=1), scene_of(rows=ONE + [("b", 0, 0)], workers=3)]:
            for promise in PROMISES:
                for thing in THINGS:
                    self.assertIs(is_closed(scene, promise, thing), False)

    def test_it_is_closed_under_all_deeds(self):
        """Beside the words of [62], for lists that are drawn by lot."""
        chance = random.Random(64)
        counts = {True: 0, False: 0}
        for scene, search in small_scenes(62, 120, 60)[:60]:
            for promise in PROMISES:
                for _ in range(4):
                    states = dict.fromkeys(search.states())
                    waiting = [state_by_lot(chance, search.oracle)]
                    while waiting and len(states) < 300:
                        state = waiting.pop()
                        if state not in states:
                            states[state] = None
                            waiting.extend(step(scene, state, deed)[0] for deed in scene.deeds())
                    if chance.random() < 0.5:
                        del states[chance.choice(list(states))]
                    closed = all(step(scene, state, deed)[0] in states for state in states for deed in scene.deeds())
                    bad = any(is_bad_there(search.oracle, promise, state) for state in states)
                    wanted = closed and not bad and start(scene) in states
                    counts[wanted] += 1
                    self.assertIs(is_closed(scene, promise, sorted(states)), wanted)
        self.assertGreater(min(counts.values()), 50)


class Breach(Case):
    def test_what_check_returns(self):
        breaking = 0
        chance = random.Random(66)
        for scene, search in small_scenes(61, 250):
            for promise in PROMISES:
                word, weaving = check(scene, promise)
                if word == "holds":
                    for state in chance.sample(search.states(), min(5, len(search.weavings))):
                        self.assertIs(is_breach(scene, promise, search.weavings[state]), False)
                    continue
                breaking += 1
                self.assertIs(is_breach(scene, promise, weaving), True)
                self.assertIs(is_breach(scene, promise, weaving[:-1]), False)
                for thing in variants(weaving):
                    wanted = self.is_breach_there(scene, search, promise, thing)
                    self.assertIs(is_breach(scene, promise, thing), wanted, thing)
        self.assertGreater(breaking, 100)

    def is_breach_there(self, scene, search, promise, thing):
        deeds = [repr(deed) for deed in scene.deeds()]
        if not isinstance(thing, list) or not all(repr(deed) in deeds for deed in thing):
            return False
        return is_bad_there(search.oracle, promise, search.end_of(thing))

    def test_longer_ones(self):
        scene = scene_of("once no")
        for many in [1, 100, 3993, 3994]:
            self.assertIs(is_breach(scene, "twice", [("tick",)] * many + TWICE), True)
        for many in [3995, 3996, 40000]:
            self.assertIs(is_breach(scene, "twice", [("tick",)] * many + TWICE), False)
        self.assertIs(is_breach(scene, "twice", TWICE + [("tick",)] * 3994), True)
        self.assertIs(is_breach(scene, "twice", TWICE + [("tick",)] * 3995), False)
        # The last state counts: behind the breach of two it is bad no more.
        self.assertIs(is_breach(scene, "two", TWICE[1:5]), True)
        self.assertIs(is_breach(scene, "two", TWICE[1:5] + [("part", 1)]), False)

    def test_other_deeds(self):
        scene = scene_of("hold ever", "plan take finish effect", may=("crash",))
        weaving = [("part", 0), ("part", 0), ("crash", 0)]
        self.assertIs(is_breach(scene, "gone", weaving), True)
        others = [("fail", 0), ("crash", 2), ("put", 0), ("slow", 0), ("part", True), ["tick"], ("tick", 0), "tick"]
        for other in others:
            self.assertIs(is_breach(scene, "gone", [other] + weaving), False)
        self.assertIs(is_breach(scene_of("plan take finish effect"), "gone", weaving), False)

    def test_any_value(self):
        for scene in [scene_of(), scene_of(workers=1)]:
            for promise in PROMISES:
                for thing in THINGS:
                    self.assertIs(is_breach(scene, promise, thing), False)


class OneRow(Case):
    """[7]."""

    def test_the_rows_of_a_scene(self):
        chance = random.Random(7)
        counts = {True: 0, False: 0}
        tried = 0
        while tried < 120:
            lines, rows, workers = lines_by_lot(chance), rows_by_lot(chance, 3), chance.randint(1, 2)
            may = tuple(word for word in ACCIDENTS if chance.random() < 0.4)
            scene = scene_of(*lines, rows=rows, workers=workers, may=may)
            try:
                reached(scene, most=2000)
            except TooMany:
                continue
            tried += 1
            alone = scene_of(*lines, workers=workers, may=may)
            for promise in ["twice", "two", "gone"]:
                word = check(alone, promise, most=2000)[0]
                counts[word == "breaks"] += 1
                self.assertEqual(check(scene, promise, most=2000)[0], word, (lines, rows, workers, may))
        self.assertGreater(min(counts.values()), 20)

    def test_workers(self):
        chance = random.Random(8)
        tried = 0
        while tried < 100:
            lines = lines_by_lot(chance)
            may = tuple(word for word in ACCIDENTS if chance.random() < 0.4)
            scenes = [scene_of(*lines, workers=workers, may=may) for workers in (1, 2, 3)]
            try:
                reached(scenes[2], most=2000)
            except TooMany:
                continue
            tried += 1
            for promise in ["twice", "two"]:
                two, three = [check(scene, promise, most=2000) for scene in scenes[1:]]
                self.assertEqual(two[0], three[0])
                if two[0] == "breaks":
                    self.assertEqual(len(two[1]), len(three[1]))
            self.assertEqual(len({check(scene, "gone", most=2000)[0] for scene in scenes}), 1)
            self.assertEqual(check(scenes[2], "order", most=2000)[0], "holds")


if __name__ == "__main__":
    unittest.main()
