"""[80], [81] and [10]: scenes that answer alike."""

import copy
import itertools
import random
import unittest

from rowqueue.alike import are_pairs, compare, deeds_of, least
from rowqueue.errors import QueueError, TooMany, Unlike
from rowqueue.machine import play, start
from rowqueue.scenes import Scene
from rowqueue.settings import Setting
from tests.anything import THINGS
from tests.cases import Case, oracle_of, scene_of
from tests.samples import ACCIDENTS, lines_by_lot, rows_by_lot
from tests.search import Large, Search, small_scenes, variants
from tests.test_settings import VALUES


class Pairs:
    """All pairs that are met by equal answers, in the order of meeting, and the first deed that parts."""

    def __init__(self, one, other, limit=400):
        self.oracles = [oracle_of(one), oracle_of(other)]
        self.deeds = sorted(set(one.deeds()) | set(other.deeds()))
        first = tuple(oracle.start() for oracle in self.oracles)
        self.weavings = {first: []}
        self.parted = None
        waiting = [first]
        while waiting and self.parted is None:
            pair = waiting.pop(0)
            for deed in self.deeds:
                after, answers = self.step(pair, deed)
                if answers[0] != answers[1]:
                    self.parted = ("parted", self.weavings[pair] + [deed], answers)
                    break
                if after not in self.weavings:
                    if len(self.weavings) == limit:
                        raise Large()
                    self.weavings[after] = self.weavings[pair] + [deed]
                    waiting.append(after)

    def step(self, pair, deed):
        found = [oracle.step(state, deed) for oracle, state in zip(self.oracles, pair)]
        return tuple(state for state, _ in found), tuple(answer for _, answer in found)

    def all_after(self, limit=400):
        """All pairs that are met, whatever the answers are."""
        found = {tuple(oracle.start() for oracle in self.oracles): None}
        waiting = list(found)
        while waiting:
            pair = waiting.pop()
            for deed in self.deeds:
                after, _ = self.step(pair, deed)
                if after not in found:
                    if len(found) == limit:
                        raise Large()
                    found[after] = None
                    waiting.append(after)
        return list(found)

    def are_pairs(self, thing):
        """[80] again, for a list of pairs of states."""
        if len(set(thing)) < len(thing) or tuple(oracle.start() for oracle in self.oracles) not in thing:
            return False
        for pair in thing:
            for deed in self.deeds:
                after, answers = self.step(pair, deed)
                if answers[0] != answers[1] or after not in thing:
                    return False
        return True


def couples(seed, many, limit=250):
    """Scenes with as many workers and rows, of which one or two things differ."""
    chance = random.Random(seed)
    found = 0
    while found < many:
        lines, rows, workers = lines_by_lot(chance), rows_by_lot(chance, 2), chance.randint(1, 2)
        may = [tuple(word for word in ACCIDENTS if chance.random() < 0.4) for _ in range(2)]
        setting = Setting(lines)
        words = chance.sample(list(VALUES), chance.choice([0, 1, 1, 2]))
        other = setting.changed(*[f"{word} {chance.choice(VALUES[word])}" for word in words])
        rows_too = rows
        if chance.random() < 0.3:
            rows_too = [(key, (weight + 1) % 3, origin) for key, weight, origin in rows]
        prompts = chance.choice([(False, False), (False, False), (True, True), (True, False)])
        one = Scene(setting, rows, workers=workers, may=may[0], prompt=prompts[0])
        two = Scene(other, rows_too, workers=workers, may=chance.choice([may[0], may[0], may[1]]), prompt=prompts[1])
        try:
            pairs = Pairs(one, two, limit)
        except Large:
            continue
        found += 1
        yield one, two, pairs


class Deeds(Case):
    def test_of_both_each_once(self):
        one = scene_of("slow 1", "plan take check effect finish", may=("crash",), workers=2)
        other = scene_of(rows=[("a", 0, "late")], may=("crash", "more"), workers=2)
        wanted = [("crash", 0), ("crash", 1), ("more", 0), ("more", 1), ("part", 0), ("part", 1), ("put", 0)]
        wanted += [("slow", 0), ("slow", 1), ("tick",)]
        self.assertEqual(deeds_of(one, other), wanted)
        self.assertEqual(deeds_of(other, one), wanted)
        self.assertEqual(deeds_of(one, one), one.deeds())
        found = deeds_of(one, other)
        found.clear()
        self.assertEqual(deeds_of(one, other), wanted)

    def test_unlike_is_ahead_of_all_else(self):
        two = [("a", 0, "here"), ("b", 0, "here")]
        great = scene_of("hold 3", "once 3", workers=3)
        for one, other in [
            (scene_of(), scene_of(workers=2)),
            (scene_of(workers=3), scene_of(workers=2)),
            (scene_of(), scene_of(rows=two)),
            (scene_of(rows=two, workers=2), scene_of()),
            (great, scene_of("hold 3", "once 3", workers=3, rows=two)),
        ]:
            calls = [lambda: deeds_of(one, other), lambda: deeds_of(other, one), lambda: compare(one, other, most=1)]
            calls += [lambda thing=thing: are_pairs(one, other, thing) for thing in THINGS[:30]]
            for call in calls:
                with self.assertRaises(Unlike) as caught:
                    call()
                self.assertIs(type(caught.exception), Unlike)
                self.assertIsInstance(caught.exception, QueueError)


class Compare(Case):
    def test_beside_a_search(self):
        counts = {True: 0, False: 0}
        for one, other, pairs in couples(80, 400):
            found = compare(one, other)
            self.assertEqual(found, pairs.parted or ("alike", sorted(pairs.weavings)), (one.setting, other.setting))
            counts[pairs.parted is None] += 1
            many = len(pairs.weavings)
            self.assertEqual(compare(one, other, most=many), found)
            if many > 1:
                self.too_many(many - 1, compare, one, other)
            if pairs.parted:
                answers = [play(scene, found[1])[1] for scene in (one, other)]
                self.assertEqual([answers[0][:-1], answers[0][-1], answers[1][-1]], [answers[1][:-1], *found[2]])
                self.assertEqual(compare(other, one), ("parted", found[1], found[2][::-1]))
        self.assertGreater(min(counts.values()), 80)

    def test_the_least_of_the_shortest_weavings(self):
        one, other = scene_of("hold 1", workers=2), scene_of("hold 1", "fence no", workers=2)
        word, weaving, answers = compare(one, other)
        for many in range(1, len(weaving) + 1):
            for deeds in itertools.product(deeds_of(one, other), repeat=many):
                last = tuple(play(scene, list(deeds))[1][-1] for scene in (one, other))
                if last[0] != last[1]:
                    self.assertEqual((word, weaving, answers), ("parted", list(deeds), last))
                    return
        self.fail("no weaving parts them")

    def test_deeds_of_one_scene_only(self):
        # A crash that one scene does not know changes nothing there and answers ().
        one, other = scene_of("hold ever", may=("crash",)), scene_of("hold ever")
        weaving = [("part", 0), ("crash", 0), ("part", 0)]
        self.assertEqual(compare(one, other), ("parted", weaving, (("nothing",), ("effect 0",))))
        self.assertEqual(compare(scene_of(may=("give",)), scene_of())[1], [("part", 0), ("give", 0)])

    def test_alike_scenes(self):
        for line in ["margin 2", "order key", "order weight", "dead closes", "skip no", "count fail", "slow 2"]:
            word, pairs = compare(scene_of(), scene_of(line))
            self.assertEqual(word, "alike")
            self.assertEqual(pairs, [(state, state) for state, _ in pairs])
        self.assertEqual(compare(scene_of(rows=[("abc", 9, "here")]), scene_of())[0], "alike")

    def test_most_is_1000_if_it_is_left_out(self):
        great = scene_of("hold 3", "once 3", workers=3)
        self.too_many(1000, lambda one, other, most: compare(one, other), great, great)
        self.too_many(1629, compare, great, great)
        self.assertEqual(len(compare(great, great, most=1630)[1]), 1630)

    def test_the_parting_weaving_is_short(self):
        """[10]: it has fewer deeds than both together have reached states."""
        tried = 0
        for one, other, pairs in couples(81, 200):
            if pairs.parted is None:
                continue
            try:
                many = [len(Search(oracle_of(scene), pairs.deeds, 400).weavings) for scene in (one, other)]
            except Large:
                continue
            tried += 1
            self.assertLess(len(compare(one, other)[1]), sum(many))
        self.assertGreater(tried, 50)

    def test_answers_are_the_callers(self):
        for other in [scene_of("skip no"), scene_of("hold 1")]:
            first = compare(scene_of(), other)
            before = copy.deepcopy(first)
            first[1].clear()
            self.assertEqual(compare(scene_of(), other), before)


class ArePairs(Case):
    def test_what_compare_returns(self):
        chance = random.Random(82)
        alike = 0
        for one, other, pairs in couples(83, 250, 80):
            thing = sorted(pairs.weavings)
            if pairs.parted:
                self.assertIs(are_pairs(one, other, thing), False)
                continue
            alike += 1
            self.assertIs(are_pairs(one, other, thing), True)
            self.assertIs(are_pairs(one, other, chance.sample(thing, len(thing))), True)
            changed = list(variants(thing))
            for part in chance.sample(changed, min(len(changed), 40)):
                wanted = isinstance(part, list) and sorted(map(repr, part)) == sorted(map(repr, thing))
                self.assertIs(are_pairs(one, other, part), wanted, part)
        self.assertGreater(alike, 60)

    def test_answers_that_differ(self):
        """Lists that contain all that the deeds lead to, with and without a pair that answers differently."""
        counts = {True: 0, False: 0}
        for one, other, pairs in couples(89, 200):
            try:
                thing = pairs.all_after()
            except Large:
                continue
            counts[pairs.parted is None] += 1
            self.assertIs(are_pairs(one, other, thing), pairs.parted is None)
        self.assertGreater(min(counts.values()), 30)

    def test_each_thing_changed(self):
        one, other = scene_of("hold 1"), scene_of("hold 1", "margin 1")
        pairs = compare(one, other)[1]
        for thing in variants(pairs):
            wanted = isinstance(thing, list) and sorted(map(repr, thing)) == sorted(map(repr, pairs))
            self.assertIs(are_pairs(one, other, thing), wanted, thing)
        for thing in [[], pairs[1:], pairs + pairs[:1], tuple(pairs), [list(pair) for pair in pairs]]:
            self.assertIs(are_pairs(one, other, thing), False)
        self.assertIs(are_pairs(one, other, [(first, second, first) for first, second in pairs]), False)

    def test_pairs_that_are_not_met(self):
        one, other = scene_of("hold ever"), scene_of("hold ever", "once ever")
        pairs = compare(one, other)[1]
        dead, done = [((place, 0, 0, 0, 0),) for place in ("dead", "done")]
        self.assertIs(are_pairs(one, other, [*pairs, ((dead, ((),)), (done, ((),)))]), True)
        self.assertIs(are_pairs(one, other, [*pairs, ((dead, ((),)), start(other))]), False)
        # The other scene has no state with a second effect that is remembered for ticks.
        bad = ((("dead", 0, 0, 0, 1),), ((),))
        self.assertIs(are_pairs(one, other, [*pairs, ((dead, ((),)), bad)]), False)

    def test_a_state_of_each(self):
        one, other = scene_of("hold 3"), scene_of("hold 3", "pause 2")
        self.assertEqual(compare(one, other)[0], "parted")
        one, other = scene_of("pause 1", "hold ever"), scene_of("hold ever")
        pairs = compare(one, other)[1]
        waiting = ((("ready", 1, 0, 0, 0),), ((1, 0, False, 0, 0),))
        self.assertIs(are_pairs(one, other, [*pairs, (waiting, waiting)]), False)

    def test_beside_the_words(self):
        """Lists of pairs that are drawn by lot."""
        chance = random.Random(84)
        counts = {True: 0, False: 0}
        for one, other, pairs in couples(85, 250, 60):
            for _ in range(3):
                thing = list(pairs.weavings)
                if chance.random() < 0.5:
                    del thing[chance.randrange(len(thing))]
                thing += chance.choices([(b, a) for a, b in thing] or [pairs], k=chance.choice([0, 0, 1]))
                states = all(isinstance(pair, tuple) for pair in thing)
                if not states or one.setting != other.setting and any(a != b for a, b in thing):
                    continue
                wanted = pairs.are_pairs(thing)
                counts[wanted] += 1
                self.assertIs(are_pairs(one, other, thing), wanted)
        self.assertGreater(min(counts.values()), 30)

    def test_any_value(self):
        for one, other in [(scene_of(), scene_of("skip no")), (scene_of(workers=2), scene_of("hold 1", workers=2))]:
            for thing in THINGS:
                self.assertIs(are_pairs(one, other, thing), False)


def machine_there(search):
    """[81] again: states are asked in pairs whether some list of deeds parts them."""
    states = search.states()
    apart = {}
    for one, other in itertools.product(states, repeat=2):
        answers = [[answer for _, answer, _ in search.moves[state]] for state in (one, other)]
        apart[one, other] = answers[0] != answers[1]
    grown = True
    while grown:
        grown = False
        for (one, other), known in apart.items():
            pairs = zip(search.moves[one], search.moves[other])
            if not known and any(apart[first[2], second[2]] for first, second in pairs):
                apart[one, other] = grown = True
    firsts = []
    waiting = [states[0]]
    while waiting:
        state = waiting.pop(0)
        if all(apart[state, first] for first in firsts):
            firsts.append(state)
            waiting.extend(after for _, _, after in search.moves[state])
    name = {state: next(at for at, first in enumerate(firsts) if not apart[state, first]) for state in states}
    return [[(answer, name[after]) for _, answer, after in search.moves[first]] for first in firsts]


class Least(Case):
    def test_beside_the_words(self):
        for scene, search in small_scenes(62, 120, 60):
            if len(search.weavings) <= 35:
                self.assertEqual(least(scene, scene.deeds()), machine_there(search))

    def test_some_deeds_and_other_deeds(self):
        chance = random.Random(86)
        tried = 0
        for scene, search in small_scenes(61, 250):
            every = search.oracle.all_deeds()
            deeds = sorted(chance.sample(every, chance.randint(1, min(len(every), 6))))
            try:
                part = Search(search.oracle, deeds, 40)
            except Large:
                continue
            tried += 1
            many = len(part.weavings)
            found = least(scene, deeds, most=many)
            self.assertEqual(found, machine_there(part))
            self.assertEqual([len(row) for row in found], [len(deeds)] * len(found))
            if many > 1:
                # All reached states count, however few classes there are.
                self.too_many(many - 1, least, scene, deeds)
        self.assertGreater(tried, 100)

    def test_one_deed(self):
        self.assertEqual(least(scene_of(), [("tick",)]), [[((), 0)]])
        self.assertEqual(least(scene_of(), [("crash", 0)]), [[((), 0)]])
        self.assertEqual(least(scene_of(), [("put", 0)]), [[(("none",), 0)]])
        wanted = [[(("take 0",), 1)], [(("effect 0",), 2)], [(("finish 0",), 3)], [(("nothing",), 3)]]
        self.assertEqual(least(scene_of(), [("part", 0)]), wanted)

    def test_great_machines(self):
        great = scene_of("hold 3", "once 3", workers=3)
        self.too_many(1000, lambda scene, deeds, most: least(scene, deeds), great, great.deeds())
        self.too_many(1629, least, great, great.deeds())
        machine = least(great, great.deeds(), most=1630)
        self.assertLess(len(machine), 1630)
        self.assertEqual(machine[0][:3], [(("take 0",), 1), (("take 0",), 2), (("take 0",), 3)])
        # It answers as the scene does.
        chance = random.Random(87)
        deeds = great.deeds()
        for _ in range(100):
            weaving = chance.choices(deeds, k=30)
            at, answers = 0, []
            for deed in weaving:
                answer, at = machine[at][deeds.index(deed)]
                answers.append(answer)
            self.assertEqual(answers, play(great, weaving)[1])

    def test_equal_machines(self):
        """[10]: two scenes are alike exactly if their least machines are equal."""
        counts = {True: 0, False: 0}
        for one, other, pairs in couples(88, 250):
            deeds = deeds_of(one, other)
            try:
                machines = [least(scene, deeds, most=400) for scene in (one, other)]
            except TooMany:
                continue
            alike = compare(one, other)[0] == "alike"
            counts[alike] += 1
            self.assertIs(machines[0] == machines[1], alike)
        self.assertGreater(min(counts.values()), 60)

    def test_answers_are_the_callers(self):
        scene = scene_of()
        first = least(scene, scene.deeds())
        before = copy.deepcopy(first)
        self.assertEqual(len({id(row) for row in first}), len(first))
        for row in first:
            row.clear()
        first.clear()
        deeds = scene.deeds()
        self.assertEqual(least(scene, deeds), before)
        self.assertEqual(deeds, scene.deeds())


if __name__ == "__main__":
    unittest.main()
