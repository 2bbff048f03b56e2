"""[5] to [14], over the whole program, and the second machine: all is drawn by lot, the same in each run.

[7] stands in test_safety.py, [8] in test_forms.py, [12] in test_chains.py and [13] in test_copies.py.
"""

import collections
import random
import unittest

from rowqueue.alike import are_pairs, compare, deeds_of, least
from rowqueue.bounds import at_most, is_bounded, is_turn
from rowqueue.coming import can_come, is_ranked, is_trap
from rowqueue.errors import TooMany
from rowqueue.machine import able, chosen, is_state, is_weaving, play, start, step
from rowqueue.rounds import answers, round_of, state_after
from rowqueue.safety import check, is_breach, is_closed, reached
from rowqueue.scenes import Scene
from rowqueue.seen import are_sets, count, numbered, possible
from rowqueue.settings import Setting
from tests.samples import ACCIDENTS, deeds_by_lot, lines_by_lot, rows_by_lot, scene_by_lot, state_by_lot
from tests.search import small_scenes
from tests.table import Shop
from tests.telling import changed_by_lot, log_by_lot


class SecondMachine(unittest.TestCase):
    def test_weavings(self):
        chance = random.Random(42)
        for _ in range(1500):
            scene, oracle = scene_by_lot(chance)
            state = start(scene)
            self.assertEqual(state, oracle.start())
            for deed in deeds_by_lot(chance, oracle.all_deeds(), 40):
                found = step(scene, state, deed)
                self.assertEqual(found, oracle.step(state, deed), (scene.setting, scene.rows(), state, deed))
                state = found[0]
                self.compare_questions(scene, oracle, state)

    def test_states_that_need_not_be_reached(self):
        chance = random.Random(41)
        for _ in range(3000):
            scene, oracle = scene_by_lot(chance)
            state = state_by_lot(chance, oracle)
            self.compare_questions(scene, oracle, state)
            for deed in oracle.all_deeds():
                found = step(scene, state, deed)
                self.assertEqual(found, oracle.step(state, deed), (scene.setting, scene.rows(), state, deed))
                self.assertIs(is_state(scene, found[0]), True)

    def compare_questions(self, scene, oracle, state):
        self.assertIs(is_state(scene, state), True, (scene.setting, state))
        self.assertEqual(chosen(scene, state), oracle.chosen_in(state))
        for w in range(scene.workers):
            self.assertIs(able(scene, state, w), oracle.able(state, w))


class Times(unittest.TestCase):
    """[5]: only differences of times matter."""

    def test_the_queue_with_absolute_times_answers_alike(self):
        chance = random.Random(5)
        for _ in range(2500):
            # Late rows stand behind all others, and come in the order of their indexes.
            rows = rows_by_lot(chance)
            while [row[2] for row in rows] != sorted([row[2] for row in rows], key=lambda origin: origin == "late"):
                rows = rows_by_lot(chance)
            lines, workers = lines_by_lot(chance), chance.randint(1, 3)
            may = tuple(word for word in ACCIDENTS if chance.random() < 0.6)
            scene = Scene(Setting(lines), rows, workers=workers, may=may)
            shop = Shop(lines, rows, workers, may)
            self.compare(scene, shop, deeds_by_lot(chance, scene.deeds(), 50))

    def compare(self, scene, shop, weaving):
        state = start(scene)
        late = [r for r, row in enumerate(scene.rows()) if row[2] == "late"]
        for deed in weaving:
            if deed[0] == "put" and any(state[0][r][0] == "yet" for r in late if r < deed[1]):
                continue
            found, answer = step(scene, state, deed)
            self.assertEqual(answer, shop.do(deed), (scene.setting, scene.rows(), state, deed))
            self.assertEqual(found, shop.state(), (scene.setting, scene.rows(), state, deed))
            state = found


class OneOfBoth(unittest.TestCase):
    """[6]."""

    def test_promises(self):
        told = collections.Counter()
        for scene, _ in small_scenes(6, 150):
            states = reached(scene)
            for promise in ["twice", "two", "order", "gone"]:
                word, paper = check(scene, promise)
                told[promise, word] += 1
                self.assertIs(is_closed(scene, promise, states), word == "holds")
                if word == "holds":
                    self.assertIs(is_closed(scene, promise, paper), True)
                    self.assertIs(is_breach(scene, promise, paper), False)
                else:
                    self.assertIs(is_breach(scene, promise, paper), True)
                    self.assertIs(is_closed(scene, promise, paper), False)
        self.assertGreaterEqual(len(told), 7, told)

    def test_wishes(self):
        told = collections.Counter()
        for scene, _ in small_scenes(6, 150):
            for wish in ["effect", "settled"]:
                word, *paper = can_come(scene, wish)
                told[wish, word] += 1
                if word == "holds":
                    self.assertIs(is_ranked(scene, wish, *paper), True)
                    for state, _ in paper[0]:
                        self.assertIs(is_trap(scene, wish, [], [state]), False)
                else:
                    self.assertIs(is_trap(scene, wish, *paper), True)
                    self.assertIs(is_ranked(scene, wish, [(state, 1) for state in paper[1]]), False)
        self.assertEqual(len(told), 4, told)

    def test_counts(self):
        told = collections.Counter()
        for scene, _ in small_scenes(6, 100):
            for word in ["takes", "passed", "waits", "gap"]:
                kind, *paper = at_most(scene, (word, 0))
                told[kind] += 1
                if kind == "ever":
                    self.assertIs(is_turn(scene, (word, 0), *paper), True)
                    continue
                number = paper[0] if kind == "most" else None
                self.assertIs(is_bounded(scene, (word, 0), number, paper[-1]), True)
                if number is not None:
                    # No lesser number can be shown, as a weaving reaches this one.
                    lesser = number - 1 if number > 0 else None
                    self.assertIs(is_bounded(scene, (word, 0), lesser, paper[-1]), False)
                    for turn in [[("tick",)], [("part", 0)]]:
                        self.assertIs(is_turn(scene, (word, 0), paper[1], paper[2], turn, []), False)
        self.assertGreater(min(told.values()), 20, told)


class Alike(unittest.TestCase):
    """[10]."""

    def test_scenes_with_one_other_line(self):
        chance = random.Random(10)
        told = collections.Counter()
        for scene, _ in small_scenes(6, 150):
            line = chance.choice([*lines_by_lot(chance), "dead closes", "skip no", "margin 1"])
            setting, rows = scene.setting.changed(line), scene.rows()
            other = Scene(setting, rows, workers=scene.workers, may=scene.may, prompt=scene.prompt)
            deeds = deeds_of(scene, other)
            try:
                word, *paper = compare(scene, other, most=2000)
                machines = [least(one, deeds, most=2000) for one in (scene, other)]
            except TooMany:
                continue
            told[word] += 1
            self.assertIs(word == "alike", machines[0] == machines[1])
            if word == "alike":
                self.assertIs(are_pairs(scene, other, *paper), True)
                continue
            weaving, last = paper
            found = [play(one, weaving)[1] for one in (scene, other)]
            self.assertEqual(found[0][:-1], found[1][:-1])
            self.assertEqual((found[0][-1], found[1][-1]), last)
            self.assertNotEqual(*last)
        self.assertGreater(min(told.values()), 20, told)


class Logs(unittest.TestCase):
    """[11]."""

    def test_logs(self):
        chance = random.Random(11)
        told = collections.Counter()
        for scene, search in small_scenes(6, 150):
            log = log_by_lot(chance, search, 6)
            if log and chance.random() < 0.6:
                log = changed_by_lot(chance, log)
            word, *paper = possible(scene, log, most=2000)
            told[word] += 1
            if word == "impossible":
                self.assertIs(are_sets(scene, log, *paper), True)
                self.assertEqual([count(scene, log, many, most=2000) for many in (0, 7, 30)], [0, 0, 0])
                continue
            for at in range(len(log)):
                before = possible(scene, log[:at], most=2000)[2]
                self.assertIs(are_sets(scene, log, at, [before] * (at + 1)), False)
            if len(paper[0]) <= 30:
                numbers = [count(scene, log, many, most=2000) for many in range(len(paper[0]) + 1)]
                self.assertEqual(sum(numbers[:-1]), 0)
                self.assertEqual(numbered(scene, log, len(paper[0]), 0, most=2000), paper[0])
                if numbers[-1] > 1:
                    self.assertLess(paper[0], numbered(scene, log, len(paper[0]), 1, most=2000))
        self.assertGreater(min(told.values()), 30, told)


class ForEver(unittest.TestCase):
    """[14]."""

    def test_rounds(self):
        chance = random.Random(14)
        for _ in range(400):
            scene, _ = scene_by_lot(chance)
            turn = deeds_by_lot(chance, scene.deeds(), chance.choice([1, 2, 3, 7]))
            few = chance.randint(0, 12)
            state, told = play(scene, turn * few)
            self.assertEqual(state_after(scene, start(scene), turn, few), state)
            words = collections.Counter(word for answer in told for word in answer)
            self.assertEqual(answers(scene, start(scene), turn, few), sorted(words.items()))
            # What is added up of two parts is the whole, however long they are.
            ahead, behind = chance.randrange(5 * 10**17), chance.choice([1, 9, chance.randrange(5 * 10**17)])
            middle = state_after(scene, state, turn, ahead)
            self.assertEqual(state_after(scene, state, turn, ahead + behind), state_after(scene, middle, turn, behind))
            words = collections.Counter(dict(answers(scene, state, turn, ahead)))
            words.update(dict(answers(scene, middle, turn, behind)))
            self.assertEqual(answers(scene, state, turn, ahead + behind), sorted(words.items()))
            lead, length = round_of(scene, middle, turn)
            self.assertEqual(state_after(scene, middle, turn, lead + length), state_after(scene, middle, turn, lead))


class Remembering(unittest.TestCase):
    """[9]: once ever is once no, with all effects above 1 counted as 1."""

    def test_ever_and_no(self):
        chance = random.Random(9)
        seen = 0
        for _ in range(1500):
            plain, _ = scene_by_lot(chance)
            scenes = [self.with_line(plain, "once ever"), self.with_line(plain, "once no")]
            states = [start(scene) for scene in scenes]
            effects = set()
            for deed in deeds_by_lot(chance, plain.deeds(), 50):
                (first, answer), (second, other) = [step(scenes[k], states[k], deed) for k in range(2)]
                wanted = tuple("again" + word[6:] if word in effects else word for word in other)
                self.assertEqual(answer, wanted)
                seen += other != answer
                effects.update(word for word in other if word.startswith("effect"))
                cut = [(place, ticks, tries, min(many, 1), memory) for place, ticks, tries, many, memory in second[0]]
                self.assertEqual(first, (tuple(cut), second[1]))
                states = [first, second]
        self.assertGreater(seen, 300)

    def with_line(self, scene, line):
        setting = scene.setting.changed(line)
        return Scene(setting, scene.rows(), workers=scene.workers, may=scene.may, prompt=scene.prompt)

    def test_one_row(self):
        rows = [("a", 0, "here")]
        weaving = [("part", 0), ("part", 0), ("tick",), ("tick",), ("part", 1), ("part", 1)]
        self.assertIs(is_weaving(Scene(Setting(), rows), weaving), True)
        answers = [play(Scene(Setting([line]), rows), weaving)[1][-1] for line in ["once no", "once ever"]]
        self.assertEqual(answers, [("effect 0",), ("again 0",)])
        for ticks in range(1, 7):
            # It is remembered for as many ticks as the line says, and the second try comes behind two.
            answer = play(Scene(Setting([f"once {ticks}"]), rows), weaving)[1][-1]
            self.assertEqual(answer, ("effect 0",) if ticks <= 2 else ("again 0",))


if __name__ == "__main__":
    unittest.main()
