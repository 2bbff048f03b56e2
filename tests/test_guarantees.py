"""[5], [9], and the second machine: weavings that are drawn by lot, the same in each run."""

import random
import unittest

from rowqueue.machine import able, chosen, is_state, is_weaving, play, start, step
from rowqueue.scenes import Scene
from rowqueue.settings import Setting
from tests.samples import ACCIDENTS, deeds_by_lot, lines_by_lot, rows_by_lot, scene_by_lot, state_by_lot
from tests.table import Shop


class SecondMachine(unittest.TestCase):
    def test_weavings(self):
        chance = random.Random(42)
        for _ in range(1500):
            scene, oracle = scene_by_lot(chance)
            state = start(scene)
            self.assertEqual(state, oracle.start())
            for deed in deeds_by_lot(chance, oracle.all_deeds(), 40):
                found = step(scene, state, deed)
                self.assertEqual(found, oracle.step(state, deed), (scene.setting, scene.rows(), state, deed))
                state = found[0]
                self.compare_questions(scene, oracle, state)

    def test_states_that_need_not_be_reached(self):
        chance = random.Random(41)
        for _ in range(3000):
            scene, oracle = scene_by_lot(chance)
            state = state_by_lot(chance, oracle)
            self.compare_questions(scene, oracle, state)
            for deed in oracle.all_deeds():
                found = step(scene, state, deed)
                self.assertEqual(found, oracle.step(state, deed), (scene.setting, scene.rows(), state, deed))
                self.assertIs(is_state(scene, found[0]), True)

    def compare_questions(self, scene, oracle, state):
        self.assertIs(is_state(scene, state), True, (scene.setting, state))
        self.assertEqual(chosen(scene, state), oracle.chosen_in(state))
        for w in range(scene.workers):
            self.assertIs(able(scene, state, w), oracle.able(state, w))


class Times(unittest.TestCase):
    """[5]: only differences of times matter."""

    def test_the_queue_with_absolute_times_answers_alike(self):
        chance = random.Random(5)
        for _ in range(2500):
            # Late rows stand behind all others, and come in the order of their indexes.
            rows = rows_by_lot(chance)
            while [row[2] for row in rows] != sorted([row[2] for row in rows], key=lambda origin: origin == "late"):
                rows = rows_by_lot(chance)
            lines, workers = lines_by_lot(chance), chance.randint(1, 3)
            may = tuple(word for word in ACCIDENTS if chance.random() < 0.6)
            scene = Scene(Setting(lines), rows, workers=workers, may=may)
            shop = Shop(lines, rows, workers, may)
            self.compare(scene, shop, deeds_by_lot(chance, scene.deeds(), 50))

    def compare(self, scene, shop, weaving):
        state = start(scene)
        late = [r for r, row in enumerate(scene.rows()) if row[2] == "late"]
        for deed in weaving:
            if deed[0] == "put" and any(state[0][r][0] == "yet" for r in late if r < deed[1]):
                continue
            found, answer = step(scene, state, deed)
            self.assertEqual(answer, shop.do(deed), (scene.setting, scene.rows(), state, deed))
            self.assertEqual(found, shop.state(), (scene.setting, scene.rows(), state, deed))
            state = found


class Remembering(unittest.TestCase):
    """[9]: once ever is once no, with all effects above 1 counted as 1."""

    def test_ever_and_no(self):
        chance = random.Random(9)
        seen = 0
        for _ in range(1500):
            plain, _ = scene_by_lot(chance)
            scenes = [self.with_line(plain, "once ever"), self.with_line(plain, "once no")]
            states = [start(scene) for scene in scenes]
            effects = set()
            for deed in deeds_by_lot(chance, plain.deeds(), 50):
                (first, answer), (second, other) = [step(scenes[k], states[k], deed) for k in range(2)]
                wanted = tuple("again" + word[6:] if word in effects else word for word in other)
                self.assertEqual(answer, wanted)
                seen += other != answer
                effects.update(word for word in other if word.startswith("effect"))
                cut = [(place, ticks, tries, min(many, 1), memory) for place, ticks, tries, many, memory in second[0]]
                self.assertEqual(first, (tuple(cut), second[1]))
                states = [first, second]
        self.assertGreater(seen, 300)

    def with_line(self, scene, line):
        setting = scene.setting.changed(line)
        return Scene(setting, scene.rows(), workers=scene.workers, may=scene.may, prompt=scene.prompt)

    def test_one_row(self):
        rows = [("a", 0, "here")]
        weaving = [("part", 0), ("part", 0), ("tick",), ("tick",), ("part", 1), ("part", 1)]
        self.assertIs(is_weaving(Scene(Setting(), rows), weaving), True)
        answers = [play(Scene(Setting([line]), rows), weaving)[1][-1] for line in ["once no", "once ever"]]
        self.assertEqual(answers, [("effect 0",), ("again 0",)])
        for ticks in range(1, 7):
            # It is remembered for as many ticks as the line says, and the second try comes behind two.
            answer = play(Scene(Setting([f"once {ticks}"]), rows), weaving)[1][-1]
            self.assertEqual(answer, ("effect 0",) if ticks <= 2 else ("again 0",))


if __name__ == "__main__":
    unittest.main()
