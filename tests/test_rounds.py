"""[93] and [14]: deeds that are done again and again."""

import collections
import copy
import random
import unittest

from rowqueue.machine import start
from rowqueue.rounds import answers, round_of, state_after
from tests.cases import Case, oracle_of, scene_of
from tests.samples import deeds_by_lot, scene_by_lot, state_by_lot

GREAT = 10**18


class Steps:
    """Rounds that are done one by one with the second machine, until a state comes again."""

    def __init__(self, oracle, state, turn):
        self.oracle, self.turn = oracle, turn
        self.states, self.words = [state], []
        self.go()
        while self.states[-1] not in self.states[:-1]:
            self.go()
        self.lead = self.states.index(self.states[-1])
        self.length = len(self.states) - 1 - self.lead

    def go(self):
        state, words = self.states[-1], collections.Counter()
        for deed in self.turn:
            state, answer = self.oracle.step(state, deed)
            words.update(answer)
        self.states.append(state)
        self.words.append(words)

    def state_after(self, times):
        while times >= len(self.states):
            times -= self.length * max((times - len(self.states)) // self.length, 1)
        return self.states[times]

    def answers(self, times):
        """The words of so many rounds: those of whole circles come all at once."""
        total, left, at = collections.Counter(), times, 0
        if times > self.lead:
            circles = (times - self.lead) // self.length
            for words in self.words[self.lead :]:
                total.update({word: number * circles for word, number in words.items()})
            left -= circles * self.length
        for words in self.words[:left]:
            total.update(words)
        return sorted((+total).items())


def cases(seed, many):
    """Tuples of a scene, a state, a round, and its steps."""
    chance = random.Random(seed)
    for _ in range(many):
        scene, oracle = scene_by_lot(chance)
        state = start(scene) if chance.random() < 0.3 else state_by_lot(chance, oracle)
        many = chance.choice([1, 1, 2, 3, 5, 8, 30])
        turn = deeds_by_lot(chance, scene.deeds(), many)
        yield scene, state, turn, Steps(oracle, state, turn)


class Rounds(Case):
    def test_round_of(self):
        leads, lengths = collections.Counter(), collections.Counter()
        for scene, state, turn, steps in cases(93, 1200):
            given = copy.deepcopy([state, turn])
            found = round_of(scene, state, turn)
            self.assertEqual(found, (steps.lead, steps.length), (scene.setting, state, turn))
            self.assertIs(type(found), tuple)
            self.assertEqual([state, turn], given)
            leads[steps.lead] += 1
            lengths[steps.length] += 1
        self.assertGreater(leads[0], 100)
        self.assertGreater(sum(leads.values()) - leads[0] - leads[1], 100)
        self.assertGreater(sum(lengths.values()) - lengths[1], 50)

    def test_none_some_and_many_rounds(self):
        chance = random.Random(94)
        for scene, state, turn, steps in cases(95, 500):
            whole = steps.lead + steps.length
            few = {0, 1, 2, steps.lead, max(steps.lead - 1, 0), steps.lead + 1, whole - 1, whole, whole + 1, 3 * whole}
            great = {GREAT, GREAT - 1, chance.randrange(GREAT), chance.randrange(10**6)}
            for times in sorted(few | great):
                self.assertEqual(state_after(scene, state, turn, times), steps.state_after(times))
                self.assertEqual(answers(scene, state, turn, times), steps.answers(times))

    def test_the_steps_themselves(self):
        """All rounds one by one, for as long as there is time for it."""
        for scene, state, turn, steps in cases(96, 60):
            now, total = state, collections.Counter()
            for times in range(40):
                self.assertEqual(state_after(scene, state, turn, times), now)
                self.assertEqual(answers(scene, state, turn, times), sorted(total.items()))
                for deed in turn:
                    now, answer = steps.oracle.step(now, deed)
                    total.update(answer)

    def test_most(self):
        tried = 0
        for scene, state, turn, steps in cases(97, 300):
            whole = steps.lead + steps.length
            for function, *more in [(round_of,), (state_after, 0), (state_after, GREAT), (answers, 0), (answers, 7)]:
                found = function(scene, state, turn, *more)
                self.assertEqual(function(scene, state, turn, *more, most=whole), found)
                self.assertEqual(function(scene, state, turn, *more, most=whole + 1), found)
                if whole > 1:
                    tried += 1
                    self.too_many(whole - 1, function, scene, state, turn, *more)
                    self.too_many(1, function, scene, state, turn, *more)
        self.assertGreater(tried, 300)

    def test_no_round(self):
        for scene, state, turn, _ in cases(98, 30):
            self.assertEqual(state_after(scene, state, turn, 0), state)
            self.assertEqual(answers(scene, state, turn, 0), [])

    def test_rounds_that_change_nothing(self):
        scene = scene_of(rows=[("a", 0, "late")])
        for many in range(1, 31):
            turn = [("tick",)] * many
            self.assertEqual(round_of(scene, start(scene), turn, most=1), (0, 1))
            self.assertEqual(answers(scene, start(scene), turn, GREAT), [])
        turn = [("part", 0)] * 30
        self.assertEqual(round_of(scene, start(scene), turn, most=1), (0, 1))
        self.assertEqual(answers(scene, start(scene), turn, GREAT), [("nothing", 30 * GREAT)])
        turn = [("put", 0)]
        self.assertEqual(round_of(scene, start(scene), turn), (1, 1))
        self.assertEqual(answers(scene, start(scene), turn, GREAT), [("none", GREAT - 1), ("put 0", 1)])

    def test_words_of_the_lead_come_only_once(self):
        scene = scene_of("tries 2", "hold 1", "once ever")
        turn = [("part", 0), ("part", 0), ("tick",)]
        self.assertEqual(round_of(scene, start(scene), turn), (3, 1))
        told = [("again 0", 1), ("dead 0", 1), ("effect 0", 1), ("nothing", 2 * GREAT - 6), ("stale", 2), ("take 0", 2)]
        self.assertEqual(answers(scene, start(scene), turn, GREAT), told)
        self.assertEqual(answers(scene, start(scene), turn, 1), [("effect 0", 1), ("take 0", 1)])

    def test_a_long_round(self):
        lines = ["order weight", "hold 3", "plan take follow effect finish", "count fail", "dead closes", "once 5"]
        rows = [("b", 1, "here"), ("a", 2, "late"), ("c", 0, "here"), ("d", 0, 0)]
        scene = scene_of(*lines, rows=rows, workers=3, may=("fail",))
        words = "fail 1, put 1, part 0, part 0, part 2, fail 1, fail 0, part 0, part 1, part 1, tick, part 1"
        parts = [deed.split(" ") for deed in words.split(", ")]
        turn = [(word, *map(int, numbers)) for word, *numbers in parts]
        steps = Steps(oracle_of(scene), start(scene), turn)
        self.assertEqual([steps.lead, steps.length], [8, 240])
        for times in [0, 7, 8, 9, 247, 248, 249, GREAT]:
            self.assertEqual(state_after(scene, start(scene), turn, times, most=248), steps.state_after(times))
            self.assertEqual(answers(scene, start(scene), turn, times, most=248), steps.answers(times))
            self.too_many(247, state_after, scene, start(scene), turn, times)
            self.too_many(247, answers, scene, start(scene), turn, times)
        self.assertEqual(round_of(scene, start(scene), turn, most=248), (8, 240))
        self.assertEqual(round_of(scene, start(scene), turn), (8, 240))
        self.too_many(247, round_of, scene, start(scene), turn)

    def test_answers_are_the_callers(self):
        scene = scene_of()
        turn = [("part", 0), ("tick",), ("tick",)]
        first = answers(scene, start(scene), turn, 9)
        first.clear()
        self.assertEqual(answers(scene, start(scene), turn, 9), [("effect 0", 3), ("stale", 3), ("take 0", 3)])


if __name__ == "__main__":
    unittest.main()
