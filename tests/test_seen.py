"""[90] to [92], and [11]: what a log shows."""

import copy
import itertools
import random
import unittest

from rowqueue.errors import NoWeaving, TooMany
from rowqueue.machine import is_weaving, play, start
from rowqueue.seen import are_sets, count, numbered, possible
from tests.anything import THINGS
from tests.cases import Case, oracle_of, scene_of
from tests.samples import state_by_lot
from tests.search import Search, small_scenes, variants
from tests.telling import Telling, are_sets_there, changed_by_lot, log_by_lot, shown_by


def searched(*lines, limit=2000, **named):
    """A scene and its search."""
    scene = scene_of(*lines, **named)
    return scene, Search(oracle_of(scene), scene.deeds(), limit)


def cases(seed, many, items=8):
    """Tuples of a scene and what its search tells of a log: of a weaving, or of such a log with one change."""
    chance = random.Random(seed)
    for scene, search in small_scenes(61, 250)[:many]:
        log = log_by_lot(chance, search, chance.randint(0, items))
        yield scene, Telling(search, log), True
        if log:
            yield scene, Telling(search, changed_by_lot(chance, log)), False


class Possible(Case):
    def test_beside_a_search(self):
        told = {"possible": 0, "impossible": 0}
        for scene, telling, shown in cases(90, 250):
            log, sets = telling.log, telling.sets()
            given = copy.deepcopy(log)
            if len(sets) > len(log):
                wanted = ("possible", telling.least(), sorted(sets[-1]))
            else:
                wanted = ("impossible", len(sets) - 1, [sorted(states) for states in sets])
            told[wanted[0]] += 1
            self.assertTrue(wanted[0] == "possible" or not shown)
            self.assertEqual(possible(scene, log, most=2000), wanted, (scene.setting, scene.rows(), log))
            self.assertEqual(log, given)
        self.assertGreater(min(told.values()), 80, told)

    def test_the_weaving_shows_the_log_and_leads_to_one_of_the_states(self):
        for scene, telling, _ in cases(91, 100, 12):
            word, *parts = possible(scene, telling.log, most=2000)
            if word == "possible":
                weaving, states = parts
                self.assertIs(is_weaving(scene, weaving), True)
                state, answers = play(scene, weaving)
                self.assertEqual([answer for answer in answers if answer != ()], telling.log)
                self.assertIn(state, states)

    def test_most_counts_the_pairs_whatever_is_returned(self):
        told = {"possible": 0, "impossible": 0}
        for scene, telling, _ in cases(92, 60):
            pairs, log = telling.pairs(), telling.log
            answer = possible(scene, log, most=2000)
            told[answer[0]] += 1
            self.assertEqual(possible(scene, log, most=pairs), answer)
            self.assertEqual(possible(scene, log, most=min(pairs + 1, 2000)), answer)
            for function, *more in [(possible,), (count, 0), (count, 4), (numbered, 4, 0), (numbered, 0, 10**30)]:
                if pairs > 1:
                    self.too_many(pairs - 1, function, scene, log, *more)
                    self.too_many(1, function, scene, log, *more)
        self.assertGreater(min(told.values()), 10, told)

    def test_most_is_1000_if_it_is_left_out(self):
        chance = random.Random(1)
        lines = ["hold 4", "slow 2", "plan take effect check finish", "pause 3", "once 6"]
        scene, search = searched(*lines, workers=2, limit=5000)
        tried = 0
        while tried < 3:
            log = log_by_lot(chance, search, 29)
            pairs = Telling(search, log).pairs()
            if not 1000 < pairs <= 2000:
                continue
            tried += 1
            # The second log is impossible, by its last item.
            for told, word in [(log, "possible"), (log + [("dead 0",)], "impossible")]:
                for function, *more in [(possible,), (count, 5), (numbered, 5, 0)]:
                    self.refuses(TooMany, [1000], function, scene, told, *more)
                    self.too_many(pairs - 1, function, scene, told, *more)
                self.assertEqual(possible(scene, told, most=pairs)[0], word)

    def test_the_empty_log(self):
        scene = scene_of(rows=[("a", 0, "late")])
        self.assertEqual(possible(scene, []), ("possible", [], [start(scene)]))
        # A deed that answers none shows no log, so there is no way on behind a put.
        self.assertEqual(possible(scene, [("put 0",)])[:2], ("possible", [("put", 0)]))
        self.assertEqual(possible(scene, [("put 0",), ("put 0",)])[:2], ("impossible", 1))
        self.assertEqual([count(scene, [], many) for many in range(4)], [1, 1, 1, 1])
        self.assertEqual(numbered(scene, [], 3, 0), [("tick",)] * 3)

    def test_deeds_that_answer_none_show_no_log(self):
        scene = scene_of("plan take finish effect", may=("fail", "give"))
        log = [("take 0",), ("finish 0",), ("effect 0",)]
        self.assertEqual(possible(scene, log)[1], [("part", 0)] * 3)
        # Ahead of the take only a tick is silent; the accidents answer none there.
        self.assertEqual([count(scene, log, 3), count(scene, log, 4), numbered(scene, log, 4, 3)][:2], [1, 4])
        self.assertEqual(numbered(scene, log, 4, 3), [("tick",)] + [("part", 0)] * 3)

    def test_states_however_long_the_weavings_are(self):
        scene = scene_of("hold 4", "tries 1")
        states = possible(scene, [("take 0",)])[2]
        self.assertEqual(states, [((("held", k, 1, 0, 0),), ((1, 0, True, 0, 0),)) for k in (1, 2, 3, 4)])
        self.assertEqual(possible(scene, [("take 0",), ("dead 0",)])[1], [("part", 0)] + [("tick",)] * 4)

    def test_an_impossible_log(self):
        scene = scene_of("tries 1")
        word, at, sets = possible(scene, [("take 0",), ("take 0",), ("effect 0",)])
        held = [((("held", k, 1, 0, 0),), ((1, 0, True, 0, 0),)) for k in (1, 2)]
        self.assertEqual([word, at, sets], ["impossible", 1, [[start(scene)], held]])

    def test_answers_are_the_callers(self):
        scene = scene_of()
        for log in [[("take 0",), ("stale",)], [("take 0",), ("late",)]]:
            first = possible(scene, log)
            before = copy.deepcopy(first)
            for part in first[1:]:
                if isinstance(part, list):
                    for inner in part:
                        if isinstance(inner, list):
                            inner.append("more")
                    part.clear()
            self.assertEqual(possible(scene, log), before)


class Sets(Case):
    def test_what_possible_returns_in_any_order_and_with_one_change(self):
        chance = random.Random(93)
        told = {True: 0, False: 0}
        for scene, telling, _ in cases(94, 250, 4):
            word, at, *rest = possible(scene, telling.log, most=2000)
            if word == "possible":
                continue
            sets = rest[0]
            given = copy.deepcopy(sets)
            self.assertIs(are_sets(scene, telling.log, at, sets), True)
            shuffled = [chance.sample(states, len(states)) for states in sets]
            self.assertIs(are_sets(scene, telling.log, at, shuffled), True)
            others = list(variants(sets)) if sum(map(len, sets)) < 40 else []
            for other in chance.sample(others, min(60, len(others))):
                wanted = are_sets_there(scene, telling.log, at, other)
                told[wanted] += 1
                self.assertIs(are_sets(scene, telling.log, at, other), wanted, (scene.setting, telling.log, at, other))
            self.assertEqual(sets, given)
        self.assertGreater(min(told.values()), 8, told)

    def test_more_states(self):
        """States that are not reached may stand there, with all to which the deeds lead from them."""
        chance = random.Random(95)
        told = {True: 0, False: 0}
        for scene, telling, _ in cases(94, 250, 4):
            word, at, *rest = possible(scene, telling.log, most=2000)
            if word == "possible":
                continue
            oracle = telling.search.oracle
            more = state_by_lot(chance, oracle)
            sets = [list(states) for states in rest[0]]
            k = chance.randrange(at + 1)
            self.fill(scene, oracle, telling.log, sets, k, more)
            wanted = are_sets_there(scene, telling.log, at, sets)
            told[wanted] += 1
            self.assertIs(are_sets(scene, telling.log, at, sets), wanted)
            alone = [list(states) for states in rest[0]]
            alone[k].append(more)
            self.assertIs(are_sets(scene, telling.log, at, alone), are_sets_there(scene, telling.log, at, alone))
        self.assertGreater(min(told.values()), 8, told)

    def fill(self, scene, oracle, log, sets, k, more):
        waiting = [(k, more)]
        while waiting:
            k, state = waiting.pop()
            if k == len(sets) or state in sets[k]:
                continue
            sets[k].append(state)
            for deed in scene.deeds():
                after, answer = oracle.step(state, deed)
                if answer == () or answer == log[k]:
                    waiting.append((k + (answer != ()), after))

    def test_no_list_of_sets_shows_it_of_a_possible_log(self):
        """[11], together with the sets that possible returns."""
        for scene, telling, _ in cases(96, 60, 5):
            sets = [sorted(states) for states in telling.sets()]
            for at in range(len(telling.log)):
                shows = len(sets) == at + 1
                if at < len(sets):
                    self.assertIs(are_sets(scene, telling.log, at, sets[: at + 1]), shows)
                every = [telling.search.states() for _ in range(at + 1)]
                self.assertIs(are_sets(scene, telling.log, at, every), are_sets_there(scene, telling.log, at, every))
                if len(sets) > at + 1:
                    self.assertIs(are_sets(scene, telling.log, at, every), False)

    def test_sets_behind_one_that_is_not_reached_may_be_empty(self):
        scene = scene_of("tries 1")
        log = [("stale",), ("take 0",), ("late",)]
        first = [start(scene)]
        self.assertIs(are_sets(scene, log, 0, [first]), True)
        self.assertIs(are_sets(scene, log, 1, [first, []]), True)
        self.assertIs(are_sets(scene, log, 2, [first, [], []]), True)
        self.assertIs(are_sets(scene, log, 2, [first, []]), False)
        self.assertIs(are_sets(scene, log, 0, [first, []]), False)
        self.assertIs(are_sets(scene, log, 0, [[]]), False)
        self.assertIs(are_sets(scene, log, 0, []), False)
        # The same state may stand in several lists, but not twice in one.
        self.assertIs(are_sets(scene, [("stale",), ("stale",)], 1, [first, first]), True)
        self.assertIs(are_sets(scene, log, 0, [first * 2]), False)

    def test_any_value(self):
        scene = scene_of("tries 1")
        for thing in THINGS:
            for log, at in [([("stale",)], 0), ([("take 0",), ("stale",)], 1)]:
                self.assertIs(are_sets(scene, log, at, thing), False)
                self.assertIs(are_sets(scene, log, at, [thing] * (at + 1)), False)
                self.assertIs(are_sets(scene, log, at, [[start(scene)], thing][: at + 1] + [thing] * (1 - at)), False)
                self.assertIs(are_sets(scene, log, at, [[start(scene), thing]] + [[]] * at), False)


class Numbers(Case):
    def test_beside_a_list_of_all_weavings_of_few_deeds(self):
        found = 0
        for scene, telling, _ in cases(97, 120, 2):
            deeds = scene.deeds()
            for many in range(6):
                if len(deeds) ** many > 1500:
                    break
                every = itertools.product(deeds, repeat=many)
                wanted = [list(one) for one in every if shown_by(telling.search.oracle, one) == telling.log]
                found += len(wanted)
                self.assertEqual(count(scene, telling.log, many, most=2000), len(wanted))
                for number, weaving in enumerate(wanted[:40]):
                    self.assertEqual(numbered(scene, telling.log, many, number, most=2000), weaving)
                for number in [len(wanted), len(wanted) + 1, 10**39]:
                    self.refuses(NoWeaving, [number], numbered, scene, telling.log, many, number, most=2000)
        self.assertGreater(found, 1000)

    def test_thirty_deeds(self):
        chance = random.Random(98)
        found = 0
        for scene, telling, _ in cases(99, 60, 30):
            log, many = telling.log, chance.choice([17, 29, 30])
            total = telling.many(many)
            self.assertEqual(count(scene, log, many, most=2000), total)
            self.refuses(NoWeaving, [total], numbered, scene, log, many, total, most=2000)
            numbers = {0, 1, total // 2, total - 2, total - 1} | {chance.randrange(total + 1) for _ in range(3)}
            for number in sorted(number for number in numbers if 0 <= number < total):
                found += 1
                weaving = numbered(scene, log, many, number, most=2000)
                self.assertEqual(len(weaving), many)
                self.assertEqual(shown_by(telling.search.oracle, weaving), log)
                self.assertEqual(telling.number_of(weaving), number)
        self.assertGreater(found, 150)

    def test_no_deeds(self):
        scene = scene_of()
        self.assertEqual([count(scene, [], 0), count(scene, [("take 0",)], 0)], [1, 0])
        self.assertEqual(numbered(scene, [], 0, 0), [])
        self.refuses(NoWeaving, [1], numbered, scene, [], 0, 1)
        self.refuses(NoWeaving, [0], numbered, scene, [("take 0",)], 0, 0)

    def test_thirty_items(self):
        scene = scene_of("hold ever", may=("give",))
        log = [("take 0",), ("give 0",)] * 15
        self.assertEqual([count(scene, log, many) for many in (29, 30)], [0, 1])
        weaving = [("part", 0), ("give", 0)] * 15
        self.assertEqual(numbered(scene, log, 30, 0), weaving)
        self.assertEqual(possible(scene, log)[:2], ("possible", weaving))
        self.assertEqual(possible(scene, log[:29] + [("take 0",)])[:2], ("impossible", 29))

    def test_the_weaving_is_the_callers(self):
        scene = scene_of()
        log = [("take 0",)]
        numbered(scene, log, 3, 1).clear()
        self.assertEqual(numbered(scene, log, 3, 1), [("tick",), ("part", 0), ("tick",)])
        self.assertEqual(log, [("take 0",)])


if __name__ == "__main__":
    unittest.main()
