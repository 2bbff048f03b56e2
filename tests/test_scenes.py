"""[40]: scenes."""

import copy
import itertools
import unittest
import unittest.mock

from rowqueue.errors import BadRow, QueueError, Wrong
from rowqueue.scenes import Scene
from rowqueue.settings import Setting

ROWS = [("a", 0, "here"), ("b", 9, "late"), ("c", 5, 0)]
ACCIDENTS = ["crash", "fail", "give", "more"]
CHECKED = ["plan take check effect finish", "slow 1"]
OTHERS = [None, True, False, 0, 5, 10**50, "", "here", b"", [], (), {}, {"a": 1}, set(), object()]


class Case(unittest.TestCase):
    def refuse(self, wanted, place, *things, **named):
        with self.assertRaises(wanted) as caught:
            Scene(*things, **named)
        self.assertIs(type(caught.exception), wanted)
        self.assertIsInstance(caught.exception, QueueError)
        self.assertEqual(list(vars(caught.exception).values()), [place])


class Arguments(Case):
    def test_defaults(self):
        scene = Scene(Setting(), ROWS)
        self.assertEqual([scene.setting, scene.workers, scene.may, scene.prompt], [Setting(), 2, (), False])
        self.assertIs(scene.prompt, False)
        self.assertEqual(scene.rows(), ROWS)

    def test_properties(self):
        scene = Scene(Setting(["hold 3"]), ROWS, workers=3, may=("crash", "more"), prompt=True)
        self.assertEqual(scene.setting, Setting(["hold 3"]))
        self.assertEqual([scene.workers, scene.may], [3, ("crash", "more")])
        self.assertIs(scene.prompt, True)
        for name in ["setting", "workers", "may", "prompt"]:
            self.assertIsInstance(vars(Scene)[name], property)
            with self.assertRaises(AttributeError):
                setattr(scene, name, 1)

    def test_wrong_settings(self):
        for thing in OTHERS + [["hold 3"], "Setting([])"]:
            self.refuse(Wrong, 0, thing, ROWS)

    def test_wrong_rows(self):
        for thing in OTHERS + [tuple(ROWS), Setting(), [("a", 0, "here")] * 5, [None] * 80000]:
            self.refuse(Wrong, 1, Setting(), thing)

    def test_wrong_workers(self):
        for thing in [None, True, False, 0, 4, -1, 10**50, "2", [2], (2,), {}]:
            self.refuse(Wrong, 2, Setting(), ROWS, workers=thing)
        for many in [1, 2, 3]:
            self.assertEqual(Scene(Setting(), ROWS, workers=many).workers, many)

    def test_wrong_accidents(self):
        for many in range(5):
            for words in itertools.product(ACCIDENTS, repeat=many):
                if list(words) == sorted(set(words)):
                    self.assertEqual(Scene(Setting(), ROWS, may=words).may, words)
                else:
                    self.refuse(Wrong, 3, Setting(), ROWS, may=words)
        for thing in [None, True, 0, "crash", "", [], ["crash"], {}, {"crash": 1}, set(), Setting()]:
            self.refuse(Wrong, 3, Setting(), ROWS, may=thing)
        for word in ["part", "put", "slow", "tick", "Crash", "crash ", "", None, 1, True, ["crash"], ("crash",), {}]:
            self.refuse(Wrong, 3, Setting(), ROWS, may=(word,))
            self.refuse(Wrong, 3, Setting(), ROWS, may=("crash", word))
        self.refuse(Wrong, 3, Setting(), ROWS, may=("crash",) * 80000)

    def test_wrong_prompts(self):
        for thing in [None, 0, 1, "", "yes", "True", [], [True], (), (False,), {}]:
            self.refuse(Wrong, 4, Setting(), ROWS, prompt=thing)

    def test_the_first_place_counts(self):
        bad = [("place", 0), None, 0, ["crash"], 1]
        good = [Setting(), ROWS, 2, (), False]
        for which in itertools.product([False, True], repeat=5):
            setting, rows, workers, may, prompt = [bad[k] if which[k] else good[k] for k in range(5)]
            if any(which):
                self.refuse(Wrong, which.index(True), setting, rows, workers=workers, may=may, prompt=prompt)

    def test_wrong_comes_before_bad_row(self):
        self.refuse(Wrong, 0, None, [None])
        self.refuse(Wrong, 2, Setting(), [None], workers=4)
        self.refuse(Wrong, 3, Setting(), [None], may=["crash"])
        self.refuse(Wrong, 4, Setting(), [None], prompt=1)
        self.refuse(BadRow, 0, Setting(), [None])


class Rows(Case):
    def refuse_row(self, row):
        """This row is bad at each index; the rows before it are here and have other keys."""
        for at in range(4):
            before = [(key, 0, "here") for key in "wxyz"[:at]]
            self.refuse(BadRow, at, Setting(), before + [row])
            behind = [None] * (3 - at)
            self.refuse(BadRow, at, Setting(), before + [row] + behind)

    def test_forms(self):
        for row in OTHERS + ["a0h", ["a", 0, "here"], ("a", 0), ("a",), ("a", 0, "here", 0), (("a", 0, "here"),)]:
            self.refuse_row(row)

    def test_keys(self):
        for key in OTHERS + ["A", "abcdefghi", "a ", "a1", "a\n", ("a",)]:
            if key != "here":
                self.refuse_row((key, 0, "here"))
        self.assertEqual(Scene(Setting(), [("abcdefgh", 0, "here")]).rows(), [("abcdefgh", 0, "here")])

    def test_weights(self):
        for weight in [None, True, False, -1, 10, 10**50, -(10**50), "0", "", [0], (0,), {}]:
            self.refuse_row(("a", weight, "here"))
        for weight in range(10):
            self.assertEqual(Scene(Setting(), [("a", weight, "here")]).rows(), [("a", weight, "here")])

    def test_origins(self):
        for origin in [None, True, False, -1, 4, 10**50, "", "Here", "here ", "yet", "a", "0", [0], (0,), {}, set()]:
            self.refuse_row(("a", 0, origin))

    def test_origins_on_themselves_or_later_ones(self):
        keys = "abcd"
        for at in range(4):
            for origin in range(-1, 6):
                rows = [(key, 0, "here") for key in keys]
                rows[at] = (keys[at], 0, origin)
                if 0 <= origin < at:
                    self.assertEqual(Scene(Setting(), rows).rows(), rows)
                else:
                    self.refuse(BadRow, at, Setting(), rows)

    def test_chains_of_origins(self):
        rows = [("a", 0, "late"), ("b", 1, 0), ("c", 2, 1), ("d", 3, 0)]
        self.assertEqual(Scene(Setting(), rows).rows(), rows)

    def test_keys_behind_rows_that_are_not_here(self):
        for first in ["late", 0]:
            for origin in ["here", "late", 0, 1]:
                rows = [("x", 0, "here"), ("a", 0, first), ("a", 0, origin)]
                self.refuse(BadRow, 2, Setting(), rows)
                self.refuse(BadRow, 3, Setting(), rows[:2] + [("b", 0, "here"), rows[2]])
        for origin in ["here", "late", 0, 1]:
            rows = [("a", 0, "here"), ("a", 0, "here"), ("a", 0, origin), ("b", 0, "late")]
            self.assertEqual(Scene(Setting(), rows).rows(), rows)

    def test_the_first_bad_row_counts(self):
        self.refuse(BadRow, 1, Setting(), [("a", 0, "here"), ("b", 10, "here"), None])
        self.refuse(BadRow, 2, Setting(), [("a", 0, "late"), ("b", 0, "here"), ("a", 0, "here"), None])
        self.refuse(BadRow, 0, Setting(), [("a", 0, 0), ("a", 0, "here")])


class Queries(Case):
    def test_equal(self):
        one = Scene(Setting(["hold 3"]), ROWS, workers=1, may=("crash",), prompt=True)
        same = Scene(Setting(["hold 3"]), list(ROWS), workers=1, may=("crash",), prompt=True)
        self.assertIs(one == same, True)
        self.assertIs(one != same, False)
        self.assertIs(Scene(Setting(), ROWS) == Scene(Setting(), ROWS, workers=2, may=(), prompt=False), True)
        for other in [
            Scene(Setting(["hold 4"]), ROWS, workers=1, may=("crash",), prompt=True),
            Scene(Setting(["hold 3"]), ROWS[:2], workers=1, may=("crash",), prompt=True),
            Scene(Setting(["hold 3"]), ROWS[:2] + [("c", 5, 1)], workers=1, may=("crash",), prompt=True),
            Scene(Setting(["hold 3"]), ROWS[:2] + [("c", 4, 0)], workers=1, may=("crash",), prompt=True),
            Scene(Setting(["hold 3"]), ROWS[:2] + [("d", 5, 0)], workers=1, may=("crash",), prompt=True),
            Scene(Setting(["hold 3"]), ROWS, workers=2, may=("crash",), prompt=True),
            Scene(Setting(["hold 3"]), ROWS, workers=1, may=(), prompt=True),
            Scene(Setting(["hold 3"]), ROWS, workers=1, may=("crash",), prompt=False),
        ]:
            self.assertIs(one == other, False)
            self.assertIs(one != other, True)
        for thing in OTHERS + [ROWS, Setting(["hold 3"]), unittest.mock.ANY]:
            self.assertIs(one == thing, False)

    def test_what_was_handed_in_may_be_changed(self):
        rows = list(ROWS)
        scene = Scene(Setting(), rows)
        self.assertEqual(rows, ROWS)
        rows.pop()
        rows[0] = None
        self.assertEqual(scene.rows(), ROWS)

    def test_what_is_returned_may_be_changed(self):
        scene = Scene(Setting(), ROWS)
        for call in [scene.rows, scene.deeds]:
            first = call()
            before = copy.deepcopy(first)
            first.clear()
            self.assertEqual(call(), before)

    def test_what_is_bad_stays(self):
        for rows in [[["a", 0, "here"]], [("a", 0, "here"), ("a", 0, {"x": [1]})]]:
            before = copy.deepcopy(rows)
            self.refuse(BadRow, len(rows) - 1, Setting(), rows)
            self.assertEqual(rows, before)


class Deeds(Case):
    def test_the_least(self):
        scene = Scene(Setting(), [("a", 0, "here")], workers=1)
        self.assertEqual(scene.deeds(), [("part", 0), ("tick",)])

    def test_the_most(self):
        rows = [("a", 0, "late"), ("b", 0, 0), ("c", 0, "late")]
        scene = Scene(Setting(CHECKED), rows, may=("crash", "fail", "give", "more"))
        wanted = [("crash", 0), ("crash", 1), ("fail", 0), ("fail", 1), ("give", 0), ("give", 1)]
        wanted += [("more", 0), ("more", 1), ("part", 0), ("part", 1), ("put", 0), ("put", 2)]
        wanted += [("slow", 0), ("slow", 1), ("tick",)]
        self.assertEqual(scene.deeds(), wanted)

    def test_each_choice_of_accidents(self):
        for many in range(5):
            for may in itertools.combinations(ACCIDENTS, many):
                for workers in [1, 2, 3]:
                    scene = Scene(Setting(), ROWS, workers=workers, may=may)
                    words = list(may) + ["part"]
                    wanted = [(word, w) for word in words for w in range(workers)] + [("put", 1), ("tick",)]
                    self.assertEqual(scene.deeds(), wanted)
                    self.assertEqual(scene.deeds(), sorted(wanted))

    def test_slow(self):
        for slow, hold, plan in itertools.product(
            ["0", "1", "2"],
            ["1", "4", "ever", "link"],
            ["take effect finish", "take check effect finish", "take effect finish check"],
        ):
            scene = Scene(Setting([f"slow {slow}", f"hold {hold}", f"plan {plan}"]), ROWS)
            there = slow != "0" and hold.isdigit() and "check" in plan
            self.assertEqual([("slow", w) in scene.deeds() for w in range(2)], [there, there])
            self.assertEqual(scene.deeds(), sorted(scene.deeds()))

    def test_more_does_not_need_a_number(self):
        scene = Scene(Setting(["hold ever"]), ROWS, may=("more",))
        self.assertIn(("more", 1), scene.deeds())


if __name__ == "__main__":
    unittest.main()
