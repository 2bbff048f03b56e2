"""[75], and what [9] says of it: for how long a receiver has to remember a row."""

import random
import unittest

from rowqueue.errors import QueueError, TooMany
from rowqueue.memory import least_once
from rowqueue.safety import reached
from rowqueue.scenes import Scene
from tests.cases import scene_of
from tests.counting import Counting
from tests.samples import ACCIDENTS, lines_by_lot, rows_by_lot
from tests.search import gap_scenes, small_scenes


class LeastOnce(unittest.TestCase):
    def test_beside_a_search(self):
        told = {"none": 0, "ever": 0, "most": 0}
        for scene, search in small_scenes(61, 250)[:100] + gap_scenes(75, 120):
            for row in range(len(scene.rows())):
                counting = Counting(search, ("gap", row))
                marks = counting.marks()
                if marks is None:
                    told["ever"] += 1
                    self.assertIs(least_once(scene, row), None)
                    continue
                numbers = [marks[state] for state in counting.begins() if marks[state] is not None]
                told["most" if numbers else "none"] += 1
                self.assertEqual(least_once(scene, row), max(numbers) + 1 if numbers else 0)
        self.assertGreater(min(told.values()), 10, told)

    def test_a_second_effect_comes_if_it_is_remembered_for_less(self):
        """Each line once, beside all reached states."""
        chance = random.Random(75)
        told = {"none": 0, "ever": 0, "most": 0}
        tried = 0
        while tried < 120:
            rows = rows_by_lot(chance, 2)
            may = tuple(word for word in ACCIDENTS if chance.random() < 0.4)
            plain = scene_of(*lines_by_lot(chance), rows=rows, workers=chance.choice([1, 1, 2]), may=may, prompt=True)
            if chance.random() < 0.4:
                plain = chance.choice(gap_scenes(75, 120))[0]
                rows, may = plain.rows(), plain.may
            found = self.second_effects(plain)
            if found is None:
                continue
            tried += 1
            for row in range(len(rows)):
                numbers = {least_once(self.with_once(plain, once), row, most=2000) for once in found}
                # The line once does not matter for the number.
                self.assertEqual(len(numbers), 1, (plain.setting, rows, may))
                number = numbers.pop()
                told["none" if number == 0 else "ever" if number is None else "most"] += 1
                for once, effects in found.items():
                    ticks = {"no": 0}.get(once, once)
                    wanted = ticks != "ever" and (number is None or int(ticks) < number)
                    self.assertIs(effects[row] >= 2, wanted, (plain.setting, rows, may, once, number))
        self.assertGreater(min(told.values()), 10, told)

    def with_once(self, scene, once):
        setting = scene.setting.changed(f"once {once}")
        return Scene(setting, scene.rows(), workers=scene.workers, may=scene.may, prompt=scene.prompt)

    def second_effects(self, scene):
        """For each line once the most effects of each row, or None if there are too many states."""
        found = {}
        for once in ["no", "1", "2", "3", "4", "5", "6", "ever"]:
            try:
                states = reached(self.with_once(scene, once), most=2000)
            except TooMany:
                return None
            found[once] = [max(state[0][row][3] for state in states) for row in range(len(scene.rows()))]
        return found

    def test_each_answer(self):
        self.assertEqual(least_once(scene_of("tries 2", prompt=True), 0), 5)
        self.assertEqual(least_once(scene_of("tries 1", prompt=True), 0), 0)
        self.assertEqual(least_once(scene_of("hold ever"), 0), 0)
        self.assertIs(least_once(scene_of(), 0), None)
        # A later try at once: it must be remembered for one tick.
        scene = scene_of("hold link", "plan take effect finish", "tries 2", may=("crash",), prompt=True)
        self.assertIs(least_once(scene, 0), None)
        self.assertEqual(least_once(scene_of("hold link", "fence no", may=("crash",), workers=1), 0), None)

    def test_each_row(self):
        rows = [("a", 0, "here"), ("b", 0, 0)]
        scene = scene_of("hold 1", "tries 2", rows=rows, prompt=True)
        self.assertGreater(least_once(scene, 0), 0)
        # Nothing follows: the second row never comes.
        self.assertEqual(least_once(scene, 1), 0)

    def test_most(self):
        great = scene_of("hold 3", "once 3", workers=3)
        for most, given in [(1000, {}), (1629, {"most": 1629}), (1, {"most": 1})]:
            with self.assertRaises(TooMany) as caught:
                least_once(great, 0, **given)
            self.assertIsInstance(caught.exception, QueueError)
            self.assertEqual(caught.exception.limit, most)
        self.assertIs(least_once(great, 0, most=1630), None)


if __name__ == "__main__":
    unittest.main()
