"""[8] and [63]: answers from the lines alone, beside the words of [8] and beside a search."""

import itertools
import random
import unittest

from rowqueue.errors import NoForm, QueueError, TooMany
from rowqueue.forms import breach, shortest, takes
from rowqueue.machine import is_weaving, play
from rowqueue.safety import check, is_breach
from rowqueue.scenes import Scene
from rowqueue.settings import Setting
from tests.samples import PLANS
from tests.search import Large, Search
from tests.oracle import Oracle
from tests.test_settings import VALUES

PROMISES = ["twice", "two", "order", "gone"]
ROW = ("a", 0, "here")


def scene_of(*lines, rows=(ROW,), workers=2, may=(), prompt=False):
    return Scene(Setting(list(lines)), list(rows), workers=workers, may=may, prompt=prompt)


class Told:
    """[8], sentence by sentence, from the lines of a setting."""

    def __init__(self, setting, may, workers=2):
        line = dict(text.split(" ", 1) for text in setting.lines())
        plan = [part.split("+") for part in line["plan"].split(" ")]
        place = {word: at for at, words in enumerate(plan) for word in words}
        self.e, self.f, self.c = place["effect"], place["finish"], place.get("check", 99)
        self.timed = line["hold"].isdigit()
        self.V = int(line["hold"]) if self.timed else 0
        self.W = max(self.V - int(line["margin"]), 0)
        self.q, self.margin, self.slow = int(line["pause"][0]), int(line["margin"]), int(line["slow"])
        self.M = int(line["once"]) if line["once"].isdigit() else 0
        self.again = self.timed and (line["tries"] != "1" or line["count"] == "fail")
        self.line, self.may, self.workers = line, may, workers

    def twice(self):
        e, f, c, V, W, q, M, may = self.e, self.f, self.c, self.V, self.W, self.q, self.M, self.may
        if self.line["once"] == "ever" or (c <= e and self.timed and W == 0):
            return None
        numbers = []
        if f > e:
            if "give" in may:
                numbers.append(2 * e + 3 + M)
            if "fail" in may and self.line["tries"] != "1":
                numbers.append(2 * e + 3 + max(q, M))
            link = self.line["hold"] == "link" and "crash" in may
            if link and (self.line["tries"] != "1" or self.line["count"] == "fail"):
                numbers.append(2 * e + 3 + max(q, M))
            if self.again:
                numbers.append(2 * e + 2 + max(V + q, M))
            return min(numbers, default=None)
        if self.line["fence"] == "yes" or not self.again:
            return None
        number = 2 * e + 2 + V + q + M
        if f <= c <= e:
            first, second = self.margin + q + 1, M + 1 - W if c == e else 0
            if first > self.slow or second > self.slow:
                return None
            number += first + max(second, 0)
        return number

    def two(self):
        if not self.again or not (self.f > self.e or self.line["fence"] == "no"):
            return None
        if self.c > self.e:
            return 2 + self.V + self.q
        if self.W == 0:
            return None
        more = [self.margin + self.q + 1] if self.slow >= self.margin + self.q + 1 else []
        if self.c < self.e and (self.f > self.e or self.c < self.f):
            more.append(self.c)
        return 2 + self.V + self.q + min(more) if more else None

    def gone(self):
        if self.f >= self.e or (self.c <= self.f and self.timed and self.W == 0):
            return None
        numbers = [self.f + 2] if "crash" in self.may else []
        if self.timed and self.f < self.c <= self.e:
            numbers.append(self.f + 1 + self.W)
        return min(numbers, default=None)

    def order(self):
        return None

    def takes(self):
        link = self.line["hold"] == "link" and "crash" in self.may
        tries = None if self.line["tries"] == "ever" else int(self.line["tries"])
        if "give" in self.may:
            return None
        if not self.timed and "fail" not in self.may and not link:
            return 1
        if self.line["fence"] == "no" and self.timed and "crash" not in self.may and self.c > self.f:
            return min(self.workers, tries) if tries is not None and self.line["count"] == "take" else self.workers
        if tries is None or (self.line["count"] == "fail" and (self.timed or link)):
            return None
        return tries


def most_takes(search):
    """The greatest number of takes of the row in a weaving, or None, by going on until nothing grows."""
    marks = dict.fromkeys(search.moves, 0)
    for _ in range(len(marks) + 20):
        grown = False
        for state in reversed(list(marks)):
            for _, answer, after in search.moves[state]:
                if marks[after] + ("take 0" in answer) > marks[state]:
                    marks[state] = marks[after] + ("take 0" in answer)
                    grown = True
        if not grown:
            return marks[search.states()[0]]
        if marks[search.states()[0]] > 9:
            return None
    raise AssertionError("it grows for ever, but slowly")


def scene_by_lot(chance):
    lines = [f"{word} {chance.choice(values)}" for word, values in VALUES.items() if chance.random() < 0.75]
    lines.append(f"plan {chance.choice(PLANS)}")
    accidents = ["crash"] if "fence no" in lines else ["crash", "fail", "give", "more"]
    may = tuple(word for word in accidents if chance.random() < 0.35)
    return lines, may, chance.choice([2, 2, 2, 3])


class Case(unittest.TestCase):
    def compare(self, scene, promise, number):
        """The number is this one, and there is a breach of so many deeds."""
        self.assertEqual(shortest(scene, promise), number, (scene.setting, scene.may, promise))
        weaving = breach(scene, promise)
        if number is None:
            self.assertIs(weaving, None)
            return
        self.assertIs(type(weaving), list)
        self.assertEqual(len(weaving), number)
        self.assertIs(is_weaving(scene, weaving), True)
        self.assertIs(is_breach(scene, promise, weaving), True, (scene.setting, scene.may, promise, weaving))


class BesideTheWords(Case):
    def test_by_lot(self):
        chance = random.Random(8)
        numbers = {promise: set() for promise in [*PROMISES, "takes"]}
        for _ in range(12000):
            lines, may, workers = scene_by_lot(chance)
            scene = scene_of(*lines, may=may, workers=workers)
            told = Told(scene.setting, may, workers)
            for promise in PROMISES:
                number = getattr(told, promise)()
                numbers[promise].add(number)
                self.compare(scene, promise, number)
            numbers["takes"].add(told.takes())
            self.assertEqual(takes(scene), told.takes(), (scene.setting, may, workers))
        self.assertEqual(numbers["order"], {None})
        self.assertEqual(numbers["takes"], {None, 1, 2, 3, 4})
        self.assertLessEqual({None, *range(5, 17)}, numbers["twice"])
        self.assertLessEqual({None, *range(3, 11)}, numbers["two"])
        self.assertLessEqual({None, *range(2, 8)}, numbers["gone"])

    def test_checks_between_finish_and_effect(self):
        """All settings in which both workers' clocks matter."""
        counts = {True: 0, False: 0}
        plans = [plan for plan in PLANS if "check" in plan and "follow" not in plan]
        words = ["plan", "hold", "margin", "slow", "pause", "once"]
        for values in itertools.product(plans, "134", "01", "12", "01", ["no", "2", "4"]):
            scene = scene_of(*[f"{word} {value}" for word, value in zip(words, values)], "fence no")
            told = Told(scene.setting, ())
            if told.f <= told.e:
                counts[told.twice() is None] += 1
                for promise in PROMISES:
                    self.compare(scene, promise, getattr(told, promise)())
        self.assertGreater(min(counts.values()), 200)


class BesideASearch(Case):
    def test_by_lot(self):
        chance = random.Random(63)
        tried = 0
        found = {promise: 0 for promise in PROMISES}
        while tried < 350:
            lines, may, workers = scene_by_lot(chance)
            scene = scene_of(*lines, may=may, workers=workers)
            try:
                checked = {promise: check(scene, promise, most=2000) for promise in PROMISES}
            except TooMany:
                continue
            tried += 1
            for promise, (word, weaving) in checked.items():
                found[promise] += word == "breaks"
                self.compare(scene, promise, len(weaving) if word == "breaks" else None)
        self.assertGreater(min(found[promise] for promise in ["twice", "two", "gone"]), 40)
        self.assertEqual(found["order"], 0)

    def test_takes(self):
        chance = random.Random(64)
        tried = 0
        numbers = {number: 0 for number in [None, 1, 2, 3, 4]}
        while tried < 250:
            lines, may, workers = scene_by_lot(chance)
            scene = scene_of(*lines, may=may, workers=workers)
            try:
                search = Search(Oracle(lines, [ROW], workers, may), scene.deeds(), 250)
            except Large:
                continue
            tried += 1
            number = most_takes(search)
            numbers[number] += 1
            self.assertEqual(takes(scene), number, (lines, may, workers))
        self.assertGreater(min(numbers.values()), 5)


class Sentences(Case):
    """Each sentence of [8], its numbers done by hand."""

    def breaks(self, number, promise, *lines, may=()):
        self.compare(scene_of(*lines, may=may), promise, number)
        word, thing = check(scene_of(*lines, may=may), promise, most=2000)
        self.assertEqual(len(thing) if word == "breaks" else None, number)

    def test_no_trust(self):
        for margin, trusts in [("1", True), ("2", False), ("3", False)]:
            for plan in ["check+effect finish", "effect+check finish"]:
                self.breaks(6 if trusts else None, "twice", f"margin {margin}", f"plan take {plan}")
                self.breaks(6 if trusts else None, "two", f"margin {margin}", f"plan take {plan}", "slow 2")
            self.breaks(6, "twice", f"margin {margin}", "plan take effect check finish")
            self.breaks(8 if trusts else None, "twice", f"margin {margin}", "plan take check effect finish")
            self.breaks(5 if trusts else None, "two", f"margin {margin}", "plan take check effect finish")
        # With a hold that is no number no check is late.
        self.breaks(7, "twice", "hold link", "margin 3", "plan take check effect finish", may=("crash",))

    def test_twice_by_a_give(self):
        for once, number in [("no", 5), ("1", 6), ("6", 11), ("ever", None)]:
            self.breaks(number, "twice", "hold ever", f"once {once}", may=("give",))
        self.breaks(5, "twice", "hold ever", "pause 3", "tries 1", may=("give",))
        self.breaks(7, "twice", "hold ever", "plan take check effect finish", may=("give",))
        self.breaks(None, "twice", "hold ever", "plan take effect+finish", may=("give",))
        self.breaks(5, "twice", "pause 3", may=("fail", "give"))

    def test_twice_by_a_fail(self):
        for pause, once, number in [("0", "no", 5), ("2", "no", 7), ("1 3", "no", 6), ("2", "1", 7), ("2", "4", 9)]:
            self.breaks(number, "twice", "hold ever", f"pause {pause}", f"once {once}", may=("fail",))
        for count in ["take", "fail"]:
            self.breaks(None, "twice", "hold ever", "tries 1", f"count {count}", may=("fail",))
            self.breaks(5, "twice", "hold ever", "tries 2", f"count {count}", may=("fail",))

    def test_twice_by_a_link(self):
        for pause, once, number in [("0", "no", 5), ("2", "no", 7), ("2", "1", 7), ("2", "4", 9)]:
            self.breaks(number, "twice", "hold link", f"pause {pause}", f"once {once}", may=("crash",))
        self.breaks(None, "twice", "hold link")
        self.breaks(None, "twice", "hold ever", may=("crash",))
        self.breaks(None, "twice", "hold link", "tries 1", may=("crash",))
        self.breaks(5, "twice", "hold link", "tries 1", "count fail", may=("crash",))

    def test_twice_by_the_end_of_a_hold(self):
        for values, number in [("2 0 no", 6), ("1 3 no", 8), ("2 1 2", 7), ("2 1 5", 9)]:
            hold, pause, once = values.split(" ")
            self.breaks(number, "twice", f"hold {hold}", f"pause {pause}", f"once {once}")
        self.breaks(8, "twice", "plan take follow effect finish")
        self.breaks(None, "twice", "tries 1")
        self.breaks(6, "twice", "tries 1", "count fail")
        self.breaks(6, "twice", "tries 2")
        self.breaks(5, "twice", "hold 1")

    def test_twice_behind_a_finish(self):
        for plan in ["effect+finish", "finish+effect"]:
            self.breaks(None, "twice", f"plan take {plan}")
            self.breaks(6, "twice", f"plan take {plan}", "fence no")
            self.breaks(9, "twice", f"plan take {plan}", "fence no", "once 3")
            self.breaks(8, "twice", f"plan take {plan}", "fence no", "pause 2")
            self.breaks(None, "twice", f"plan take {plan}", "fence no", "tries 1")
            self.breaks(None, "twice", f"plan take {plan}", "fence no", "hold link", may=("crash",))
            self.breaks(None, "twice", f"plan take {plan}", "fence no", "once ever")
        self.breaks(8, "twice", "plan take check effect+finish", "fence no")
        self.breaks(11, "twice", "plan take check effect+finish", "fence no", "once 3")
        self.breaks(8, "twice", "plan take finish effect", "fence no")

    def test_twice_behind_a_finish_with_slow_clocks(self):
        plan = "plan take check+effect+finish"
        for margin, slow, once, number in [
            ("0", "0", "no", None),
            ("0", "1", "no", 7),
            ("1", "1", "no", None),
            ("1", "2", "no", 8),
            ("0", "1", "1", 8),
            ("0", "1", "2", 10),
            ("0", "1", "3", None),
            ("0", "2", "3", 12),
            ("1", "2", "1", 10),
        ]:
            self.breaks(number, "twice", plan, "fence no", f"margin {margin}", f"slow {slow}", f"once {once}")
        # The check stands at the finish, ahead of the effect: the second one does its own early.
        for slow, once, number in [("0", "4", None), ("1", "4", 13)]:
            self.breaks(number, "twice", "plan take check+finish effect", "fence no", f"slow {slow}", f"once {once}")

    def test_two(self):
        self.breaks(4, "two")
        self.breaks(7, "two", "hold 4", "pause 1")
        self.breaks(4, "two", "plan take effect check finish")
        self.breaks(None, "two", "hold ever")
        self.breaks(None, "two", "tries 1")
        self.breaks(4, "two", "tries 1", "count fail")
        self.breaks(None, "two", "plan take effect+finish")
        self.breaks(4, "two", "plan take effect+finish", "fence no")
        self.breaks(None, "two", "hold link", may=("crash",))

    def test_two_with_a_check(self):
        self.breaks(5, "two", "plan take check effect finish")
        self.breaks(6, "two", "plan take follow check effect finish")
        self.breaks(None, "two", "plan take check+effect finish")
        self.breaks(5, "two", "plan take check+effect finish", "slow 1")
        self.breaks(None, "two", "plan take check+effect finish", "slow 1", "margin 1")
        self.breaks(6, "two", "plan take check+effect finish", "slow 2", "margin 1")
        self.breaks(5, "two", "plan take follow check effect finish", "slow 1")
        self.breaks(6, "two", "plan take follow check effect finish", "slow 1", "pause 0", "margin 1")
        self.breaks(5, "two", "plan take check effect+finish", "fence no")
        self.breaks(None, "two", "plan take finish check effect", "fence no")
        self.breaks(None, "two", "plan take check+finish effect", "fence no")
        self.breaks(5, "two", "plan take check+finish effect", "fence no", "slow 2")

    def test_gone(self):
        self.breaks(None, "gone", may=("crash",))
        self.breaks(None, "gone", "plan take finish+effect", may=("crash",))
        self.breaks(None, "gone", "plan take finish effect")
        self.breaks(3, "gone", "plan take finish effect", may=("crash",))
        self.breaks(4, "gone", "plan take follow finish effect", may=("crash",))
        self.breaks(4, "gone", "plan take finish check effect")
        self.breaks(3, "gone", "plan take finish check+effect", "margin 1")
        self.breaks(2, "gone", "plan take finish check+effect", "margin 2")
        self.breaks(2, "gone", "plan take finish check effect", "margin 3", may=("crash",))
        self.breaks(3, "gone", "plan take finish check effect", "hold 4", may=("crash",))
        self.breaks(None, "gone", "plan take finish check effect", "hold ever")
        self.breaks(None, "gone", "plan take finish effect check")
        for plan in ["check finish effect", "check+finish effect", "finish+check effect"]:
            self.breaks(None, "gone", f"plan take {plan}")
            self.breaks(None, "gone", f"plan take {plan}", "margin 2", may=("crash",))
            self.breaks(4 if plan[5] == " " else 3, "gone", f"plan take {plan}", "margin 1", may=("crash",))

    def test_once_ever_and_order(self):
        for lines in [[], ["fence no"], ["hold link"], ["plan take finish effect", "fence no", "slow 2"]]:
            self.breaks(None, "twice", "once ever", *lines, may=("crash",))
            self.breaks(None, "order", *lines, may=("crash",))

    def test_takes(self):
        for number, lines, may in [
            (None, [], ("give",)),
            (None, ["hold ever", "tries 1"], ("give",)),
            (1, ["hold ever"], ()),
            (1, ["hold ever"], ("crash", "more")),
            (1, ["hold link", "tries 3"], ()),
            (None, ["hold link"], ("crash",)),
            (3, ["hold link", "tries 3"], ("crash",)),
            (None, ["hold ever"], ("fail",)),
            (4, ["hold ever", "tries 4"], ("fail",)),
            (4, ["hold ever", "tries 4", "count fail"], ("fail",)),
            (None, ["hold link", "tries 4", "count fail"], ("crash", "fail")),
            (2, ["fence no"], ()),
            (1, ["fence no", "tries 1"], ()),
            (2, ["fence no", "tries 1", "count fail"], ()),
            (2, ["fence no", "tries 4"], ()),
            (None, ["fence no"], ("crash",)),
            (None, ["fence no", "plan take check effect finish"], ()),
            (None, ["fence no", "plan take effect check+finish"], ()),
            (2, ["fence no", "plan take effect finish check"], ()),
            (None, [], ()),
            (4, ["tries 4"], ("crash", "fail", "more")),
            (None, ["tries 4", "count fail"], ()),
        ]:
            self.assertEqual(takes(scene_of(*lines, may=may)), number, (lines, may))
        self.assertEqual(takes(scene_of("fence no", workers=3)), 3)
        self.assertEqual(takes(scene_of("fence no", "tries 2", workers=3)), 2)


class Refusals(Case):
    def refuse(self, scene):
        calls = [lambda: takes(scene)]
        calls += [lambda p=p, f=f: f(scene, p) for p in PROMISES for f in (shortest, breach)]
        for call in calls:
            with self.assertRaises(NoForm) as caught:
                call()
            self.assertIs(type(caught.exception), NoForm)
            self.assertIsInstance(caught.exception, QueueError)

    def accept(self, scene):
        takes(scene)
        for promise in PROMISES:
            self.assertEqual(shortest(scene, promise) is None, breach(scene, promise) is None)

    def test_rows(self):
        self.refuse(scene_of(rows=[ROW, ROW]))
        self.refuse(scene_of(rows=[ROW, ("b", 0, 0)]))
        self.refuse(scene_of(rows=[("a", 0, "late")]))
        self.accept(scene_of(rows=[("xyz", 9, "here")]))

    def test_workers_and_prompt(self):
        self.refuse(scene_of(workers=1))
        self.refuse(scene_of(prompt=True))
        self.refuse(scene_of(workers=1, prompt=True))
        self.accept(scene_of(workers=2))
        self.accept(scene_of(workers=3))

    def test_accidents_behind_fence_no(self):
        accidents = ["crash", "fail", "give", "more"]
        for many in range(5):
            for may in itertools.combinations(accidents, many):
                self.accept(scene_of(may=may))
                scene = scene_of("fence no", may=may)
                if set(may) <= {"crash"}:
                    self.accept(scene)
                else:
                    self.refuse(scene)


class NoSearch(Case):
    def test_great_scenes(self):
        """Scenes with far more states than any search is for."""
        lines = ["hold 4", "slow 2", "once 6", "pause 2 3", "tries 4", "plan take follow check effect finish"]
        scene = scene_of(*lines, workers=3, may=("crash", "fail", "more"))
        with self.assertRaises(TooMany):
            check(scene, "order", most=2000)
        for promise, number in [("twice", 14), ("two", 10), ("order", None), ("gone", None)]:
            self.compare(scene, promise, number)
        self.assertEqual(takes(scene), 4)

    def test_answers_are_the_callers(self):
        scene = scene_of()
        first = breach(scene, "twice")
        self.assertEqual(play(scene, first)[1][-1], ("effect 0",))
        first.clear()
        self.assertEqual(len(breach(scene, "twice")), 6)


if __name__ == "__main__":
    unittest.main()
