"""[30], [31]: which rows are taken."""

import copy
import itertools
import random
import unittest

from rowqueue.choice import batch, chosen, ordered
from rowqueue.settings import Setting

ORDERS = ["oldest", "weight", "key"]
WORDS = ["free", "busy", "dead", "away"]


def setting_of(order="oldest", skip="yes", dead="opens"):
    return Setting([f"order {order}", f"skip {skip}", f"dead {dead}"])


def rows_of(text):
    """Rows from a text: a3 is a row with the key a and the weight 3."""
    return [(part[0], int(part[1:]), None) for part in text.split(" ")] if text else []


def expected(rows, setting, view, many):
    """The words of [31], done again: the view is kept up, and each row is asked anew."""
    looked = sorted(range(len(rows)), key=lambda k: rows[k][1], reverse=True)
    if "order weight" not in setting:
        looked = list(range(len(rows)))
    view = list(view)
    taken = []
    for at in looked:
        if len(taken) == many:
            break
        before = [view[k] for k in range(at) if rows[k][0] == rows[at][0]]
        barred = "free" in before or "busy" in before or ("dead" in before and "dead closes" in setting)
        barred = barred and "order key" in setting
        if view[at] == "free" and not barred:
            taken.append(at)
            view[at] = "busy"
        elif view[at] in ("free", "busy") and "skip no" in setting:
            break
    return taken


class Ordered(unittest.TestCase):
    def test_ascending(self):
        rows = rows_of("a1 b9 c5 a9")
        self.assertEqual(ordered(rows, "oldest"), [0, 1, 2, 3])
        self.assertEqual(ordered(rows, "key"), [0, 1, 2, 3])

    def test_weights(self):
        self.assertEqual(ordered(rows_of("a1 b9 c5 a9"), "weight"), [1, 3, 2, 0])
        self.assertEqual(ordered(rows_of("b5 a5 c5"), "weight"), [0, 1, 2])
        self.assertEqual(ordered(rows_of("b0 a9 c0 a1"), "weight"), [1, 3, 0, 2])

    def test_no_rows_and_many(self):
        for order in ORDERS:
            self.assertEqual(ordered([], order), [])
            self.assertEqual(ordered([("a", 3, None)] * 400, order), list(range(400)))
        rows = [("a", k % 10, ["anything"]) for k in range(400)]
        wanted = [k for weight in range(9, -1, -1) for k in range(weight, 400, 10)]
        self.assertEqual(ordered(rows, "weight"), wanted)

    def test_the_list_is_new(self):
        rows = rows_of("a1 b2")
        for order in ORDERS:
            first = ordered(rows, order)
            first.clear()
            self.assertEqual(len(ordered(rows, order)), 2)
        self.assertEqual(rows, rows_of("a1 b2"))


class Batch(unittest.TestCase):
    def test_each_word(self):
        rows = rows_of("a0 b0")
        for order in ORDERS:
            for word in WORDS:
                found = batch(rows, setting_of(order), [word, "free"], 8)
                self.assertEqual(found, [0, 1] if word == "free" else [1])

    def test_many(self):
        rows = [("a", k % 10, "here") for k in range(9)]
        for many in range(1, 9):
            self.assertEqual(batch(rows, setting_of(), ["free"] * 9, many), list(range(many)))
            self.assertEqual(batch(rows, setting_of("weight"), ["free"] * 9, many), list(range(8, 8 - many, -1)))
            self.assertEqual(batch(rows, setting_of("key"), ["free"] * 9, many), [0])
        self.assertEqual(batch(rows[:3], setting_of(), ["free"] * 3, 8), [0, 1, 2])

    def test_rows_of_one_key(self):
        rows = rows_of("a1 a9 b5 a2")
        key = setting_of("key")
        self.assertEqual(batch(rows, key, ["free"] * 4, 8), [0, 2])
        self.assertEqual(batch(rows, key, ["busy", "free", "free", "free"], 8), [2])
        self.assertEqual(batch(rows, key, ["away", "free", "free", "free"], 8), [1, 2])
        self.assertEqual(batch(rows, key, ["away", "busy", "free", "free"], 8), [2])
        self.assertEqual(batch(rows, key, ["away", "away", "busy", "free"], 8), [3])
        for order in ["oldest", "weight"]:
            found = batch(rows, setting_of(order), ["busy", "free", "free", "free"], 8)
            self.assertEqual(sorted(found), [1, 2, 3])

    def test_dead_rows(self):
        rows = rows_of("a0 a0 b0")
        view = ["dead", "free", "free"]
        self.assertEqual(batch(rows, setting_of("key"), view, 8), [1, 2])
        self.assertEqual(batch(rows, setting_of("key", dead="closes"), view, 8), [2])
        self.assertEqual(batch(rows, setting_of("oldest", dead="closes"), view, 8), [1, 2])
        self.assertEqual(batch(rows, setting_of("weight", dead="closes"), view, 8), [1, 2])
        # A dead row that stands behind closes nothing before it, and is not open itself.
        self.assertEqual(batch(rows, setting_of("key", dead="closes"), ["free", "dead", "free"], 8), [0, 2])
        self.assertEqual(batch(rows, setting_of("key", "no", "closes"), ["dead", "away", "free"], 8), [2])

    def test_skip(self):
        rows = rows_of("a1 b2 a3 c0")
        still = setting_of(skip="no")
        self.assertEqual(batch(rows, still, ["free"] * 4, 8), [0, 1, 2, 3])
        self.assertEqual(batch(rows, still, ["free", "busy", "free", "free"], 8), [0])
        self.assertEqual(batch(rows, still, ["busy", "free", "free", "free"], 8), [])
        self.assertEqual(batch(rows, still, ["dead", "away", "free", "free"], 8), [2, 3])
        self.assertEqual(batch(rows, setting_of("weight", "no"), ["free", "free", "free", "busy"], 8), [2, 1, 0])
        self.assertEqual(batch(rows, setting_of("weight", "no"), ["free", "busy", "free", "free"], 8), [2])
        self.assertEqual(batch(rows, setting_of("key", "no"), ["free"] * 4, 8), [0, 1])
        self.assertEqual(batch(rows, setting_of("key"), ["free"] * 4, 8), [0, 1, 3])

    def test_a_full_take_has_ended(self):
        rows = rows_of("a0 b0 c0")
        self.assertEqual(batch(rows, setting_of(skip="no"), ["free", "busy", "free"], 1), [0])
        self.assertEqual(batch(rows, setting_of(), ["free", "busy", "free"], 1), [0])
        self.assertEqual(batch(rows, setting_of(), ["free", "busy", "free"], 2), [0, 2])

    def test_no_rows_and_many_rows(self):
        for order, skip, dead in itertools.product(ORDERS, ["yes", "no"], ["opens", "closes"]):
            setting = setting_of(order, skip, dead)
            self.assertEqual(batch([], setting, [], 8), [])
            self.assertIs(chosen([], setting, []), None)
            rows = [("abcdefgh"[k % 8], 0, k) for k in range(400)]
            self.assertEqual(batch(rows, setting, ["away"] * 399 + ["free"], 8), [399])
            self.assertEqual(batch(rows, setting, ["free"] * 400, 8), list(range(8)))

    def test_all_small_views(self):
        settings = [setting_of(*lines) for lines in itertools.product(ORDERS, ["yes", "no"], ["opens", "closes"])]
        for text in ["a1 a2 b3", "a0 a0 a0", "b3 a5 b3 a9"]:
            rows = rows_of(text)
            for view in itertools.product(WORDS, repeat=len(rows)):
                for setting in settings:
                    for many in [1, 2, 8]:
                        wanted = expected(rows, setting, view, many)
                        self.assertEqual(batch(rows, setting, list(view), many), wanted)
                    first = expected(rows, setting, view, 1)
                    self.assertEqual(chosen(rows, setting, list(view)), first[0] if first else None)

    def test_great_views(self):
        chance = random.Random(31)
        for _ in range(60):
            rows = [(chance.choice("abcdefghijkl"), chance.randrange(10), None) for _ in range(400)]
            view = chance.choices(WORDS, weights=[3, 1, 1, 5], k=400)
            lines = [chance.choice(values) for values in (ORDERS, ["yes", "no"], ["opens", "closes"])]
            setting = setting_of(*lines)
            many = chance.randint(1, 8)
            self.assertEqual(batch(rows, setting, view, many), expected(rows, setting, view, many))


class Chosen(unittest.TestCase):
    def test_the_first_of_a_take(self):
        rows = rows_of("a1 a9 b5")
        self.assertEqual(chosen(rows, setting_of(), ["free"] * 3), 0)
        self.assertEqual(chosen(rows, setting_of("weight"), ["free"] * 3), 1)
        self.assertEqual(chosen(rows, setting_of("key"), ["away", "free", "free"]), 1)
        self.assertIs(chosen(rows, setting_of(), ["busy", "dead", "away"]), None)
        self.assertIs(chosen(rows, setting_of(skip="no"), ["busy", "free", "free"]), None)

    def test_arguments_stay(self):
        rows, view = [("a", 1, ["x"]), ("b", 2, ["y"])], ["free", "free"]
        before = copy.deepcopy((rows, view))
        chosen(rows, setting_of(), view)
        batch(rows, setting_of(), view, 8)
        self.assertEqual((rows, view), before)

    def test_answers_are_the_callers(self):
        rows = rows_of("a0 b0")
        first = batch(rows, setting_of(), ["free", "free"], 2)
        first.clear()
        self.assertEqual(batch(rows, setting_of(), ["free", "free"], 2), [0, 1])


if __name__ == "__main__":
    unittest.main()
