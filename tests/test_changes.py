"""[82] and [83]: the least change that makes promises hold."""

import copy
import itertools
import random
import unittest

from rowqueue.changes import are_papers, changed, choices, least_change
from rowqueue.coming import can_come, is_trap
from rowqueue.errors import QueueError, TooMany
from rowqueue.safety import check, is_breach
from rowqueue.scenes import Scene
from rowqueue.settings import Setting
from tests.anything import THINGS
from tests.samples import ACCIDENTS, PLANS, lines_by_lot, rows_by_lot
from tests.search import variants
from tests.test_settings import VALUES

PROMISES = ["twice", "two", "order", "gone", "effect", "settled"]
ONE = [("a", 0, "here")]
OFFERS = ["once ever", "plan take effect+finish", "once 3"]


def scene_of(*lines, rows=ONE, workers=2, may=(), prompt=False):
    return Scene(Setting(list(lines)), list(rows), workers=workers, may=may, prompt=prompt)


def decide(scene, promise, most=1000):
    return can_come(scene, promise, most=most) if promise in ("effect", "settled") else check(scene, promise, most=most)


def offers_by_lot(chance, scene):
    lines = [f"{word} {value}" for word, values in VALUES.items() for value in values]
    lines += [f"plan {plan}" for plan in chance.sample(PLANS, 20)]
    lines = [line for line in lines if line not in scene.setting]
    helping = ["once ever", "fence yes", "hold ever", "plan take effect+finish", "tries ever", "order key"]
    helping = [line for line in helping if line not in scene.setting]
    found = dict.fromkeys(chance.sample(helping, min(2, len(helping))) + chance.sample(lines, 2))
    return list(found)[: chance.randint(1, 4)]


def cases(seed, many):
    """Tuples of a scene, offers and promises, drawn by lot."""
    chance = random.Random(seed)
    found = 0
    while found < many:
        may = tuple(word for word in ACCIDENTS if chance.random() < 0.3)
        rows, workers = rows_by_lot(chance, 2), chance.choice([1, 1, 2])
        scene = scene_of(*lines_by_lot(chance), rows=rows, workers=workers, may=may, prompt=chance.random() < 0.3)
        offers = offers_by_lot(chance, scene)
        promises = chance.sample(PROMISES, chance.randint(1, 6))
        try:
            for choice in choices(offers):
                for promise in promises:
                    decide(changed(scene, offers, choice), promise, 300)
        except TooMany:
            continue
        found += 1
        yield scene, offers, promises


def answer_there(scene, offers, promises):
    """[83] again."""
    papers = []
    for many in range(len(offers) + 1):
        for choice in itertools.combinations(range(len(offers)), many):
            words = {offers[at].split(" ")[0] for at in choice}
            if len(words) < many:
                continue
            lines = dict(line.split(" ", 1) for line in scene.setting.lines())
            lines |= dict(offers[at].split(" ", 1) for at in choice)
            setting = Setting([f"{word} {value}" for word, value in lines.items()])
            other = Scene(setting, scene.rows(), workers=scene.workers, may=scene.may, prompt=scene.prompt)
            broken = [(promise, decide(other, promise)) for promise in promises]
            broken = [(promise, answer) for promise, answer in broken if answer[0] == "breaks"]
            if not broken:
                return ("choice", list(choice), papers)
            papers.append((list(choice), *broken[0]))
    return ("never", papers)


class Choices(unittest.TestCase):
    def test_in_their_order(self):
        self.assertEqual(choices(OFFERS), [[], [0], [1], [2], [0, 1], [1, 2]])
        self.assertEqual(choices(["hold 3"]), [[], [0]])
        self.assertEqual(choices(["once 1", "once 2", "once 3", "once ever"]), [[], [0], [1], [2], [3]])
        four = choices(["hold 3", "skip no", "slow 1", "dead closes"])
        wanted = [list(part) for many in range(5) for part in itertools.combinations(range(4), many)]
        self.assertEqual(four, wanted)
        self.assertEqual(len(four), 16)

    def test_words_are_told_apart(self):
        found = choices(["pause 1", "pause 1 2", "plan take finish effect", "plan take effect+finish"])
        self.assertEqual(found, [[], [0], [1], [2], [3], [0, 2], [0, 3], [1, 2], [1, 3]])

    def test_lists_are_the_callers(self):
        offers = list(OFFERS)
        first = choices(offers)
        self.assertEqual(len({id(choice) for choice in first}), len(first))
        for choice in first:
            choice.append(9)
        self.assertEqual([choices(offers), offers], [[[], [0], [1], [2], [0, 1], [1, 2]], OFFERS])


class Changed(unittest.TestCase):
    def test_each_choice(self):
        rows = [("a", 3, "here"), ("b", 0, "late")]
        scene = Scene(Setting(["hold 3"]), rows, workers=3, may=("crash", "more"), prompt=True)
        for choice, lines in [
            ([], []),
            ([0], ["once ever"]),
            ([1], ["plan take effect+finish"]),
            ([2], ["once 3"]),
            ([0, 1], ["plan take effect+finish", "once ever"]),
            ([1, 2], ["plan take effect+finish", "once 3"]),
        ]:
            found = changed(scene, OFFERS, choice)
            wanted = Scene(Setting(["hold 3", *lines]), rows, workers=3, may=("crash", "more"), prompt=True)
            self.assertIsInstance(found, Scene)
            self.assertTrue(found == wanted, choice)
        self.assertEqual(scene.setting, Setting(["hold 3"]))

    def test_a_line_that_is_not_the_default(self):
        scene = scene_of("once 3", "hold ever")
        self.assertTrue(changed(scene, ["once no", "hold 2"], [0, 1]) == scene_of())
        self.assertTrue(changed(scene, ["once no", "hold 2"], []) == scene)


class LeastChange(unittest.TestCase):
    def test_beside_the_words(self):
        words = {"choice": 0, "never": 0}
        longest = 0
        for scene, offers, promises in cases(83, 120):
            given = copy.deepcopy((offers, promises))
            found = least_change(scene, offers, promises)
            self.assertEqual(found, answer_there(scene, offers, promises), (scene.setting, offers, promises))
            self.assertEqual((offers, promises), given)
            words[found[0]] += 1
            longest = max(longest, len(found[-1]))
        self.assertGreater(min(words.values()), 15, words)
        self.assertGreater(longest, 5)

    def test_the_order_of_the_promises(self):
        scene = scene_of(may=("crash",))
        first = least_change(scene, OFFERS, ["twice", "two"])
        second = least_change(scene, OFFERS, ["two", "twice"])
        self.assertEqual([first[0], first[1], second[1]], ["choice", [1], [1]])
        self.assertEqual([paper[:2] for paper in first[2]], [([], "twice"), ([0], "two")])
        self.assertEqual([paper[:2] for paper in second[2]], [([], "two"), ([0], "two")])
        self.assertEqual(first[2][0][2], check(scene, "twice"))
        self.assertEqual(first[2][1][2], check(scene_of("once ever", may=("crash",)), "two"))

    def test_the_empty_choice(self):
        self.assertEqual(least_change(scene_of("once ever"), ["hold 3"], ["twice"]), ("choice", [], []))
        self.assertEqual(least_change(scene_of("hold ever"), ["hold 3"], PROMISES), ("choice", [], []))

    def test_never(self):
        scene = scene_of("hold ever", workers=1, may=("crash",))
        word, papers = least_change(scene, ["skip no", "order key"], ["order", "settled"])
        self.assertEqual(word, "never")
        self.assertEqual([paper[:2] for paper in papers], [(choice, "settled") for choice in [[], [0], [1], [0, 1]]])
        self.assertEqual(papers[0][2], can_come(scene, "settled"))
        self.assertEqual(len(papers[0][2]), 3)

    def test_all_promises(self):
        offers = ["once ever", "plan take effect+finish"]
        word, choice, papers = least_change(scene_of(may=("crash",)), offers, PROMISES)
        self.assertEqual([word, choice], ["choice", [1]])
        self.assertEqual([paper[0] for paper in papers], [[], [0]])

    def test_too_many(self):
        """As soon as one promise ahead needs more states, also if a later one does not hold."""
        scene = scene_of()
        many = len(check(scene, "order")[1])
        two = len(check(scene, "gone")[1])
        self.assertEqual(many, two)
        self.refuse(many - 1, scene, OFFERS, ["order"])
        self.refuse(many - 1, scene, OFFERS, ["order", "twice"])
        # A breach that is met early needs fewer.
        self.assertEqual(least_change(scene, ["slow 1"], ["two"], most=many - 1)[0], "never")
        self.refuse(1, scene, OFFERS, ["twice"])
        # The promise that is asked first holds; the next one breaks; the change needs more states.
        great = scene_of("hold 1", workers=3)
        small = len(check(great, "gone", most=2000)[1])
        offers = ["hold 3"]
        self.assertEqual(least_change(great, offers, ["gone"], most=small)[:2], ("choice", []))
        self.refuse(small, great, offers, ["gone", "twice"])

    def refuse(self, most, *things):
        with self.assertRaises(TooMany) as caught:
            least_change(*things, most=most)
        self.assertIs(type(caught.exception), TooMany)
        self.assertIsInstance(caught.exception, QueueError)
        self.assertEqual(vars(caught.exception), {"limit": most})

    def test_most_is_1000_if_it_is_left_out(self):
        great = scene_of("hold 3", "once 3", workers=3)
        for promise in ["order", "gone", "effect"]:
            with self.assertRaises(TooMany) as caught:
                least_change(great, ["skip no"], [promise])
            self.assertEqual(caught.exception.limit, 1000)
        self.assertEqual(least_change(great, ["skip no"], ["order"], most=1630), ("choice", [], []))

    def test_answers_are_the_callers(self):
        for promises, offers in [(["twice"], OFFERS), (["settled"], ["skip no", "order key"])]:
            scene = scene_of("hold ever" if promises == ["settled"] else "hold 2", may=("crash",))
            first = least_change(scene, offers, promises)
            before = copy.deepcopy(first)
            lists = [part for part in first if isinstance(part, list)]
            for paper in first[-1]:
                lists += [part for part in (paper[0], *paper[2]) if isinstance(part, list)]
            self.assertEqual(len({id(part) for part in lists}), len(lists))
            for part in lists:
                part.clear()
            self.assertEqual(least_change(scene, offers, promises), before)


def are_papers_there(scene, offers, promises, thing):
    """[83] again, for a tuple that is like an answer."""
    every = choices(offers)
    ahead = every if thing[0] == "never" else every[: every.index(thing[1])]
    if len(thing[-1]) != len(ahead):
        return False
    for choice, paper in zip(ahead, thing[-1]):
        if repr(paper[0]) != repr(choice) or repr(paper[1]) not in map(repr, promises):
            return False
        other = changed(scene, offers, choice)
        answer = paper[2]
        if not isinstance(answer, tuple) or answer[:1] != ("breaks",):
            return False
        if paper[1] in ("effect", "settled"):
            shown = len(answer) == 3 and is_trap(other, paper[1], answer[1], answer[2])
        else:
            shown = len(answer) == 2 and is_breach(other, paper[1], answer[1])
        if not shown:
            return False
    return True


class ArePapers(unittest.TestCase):
    def test_what_least_change_returns(self):
        chance = random.Random(84)
        counts = {True: 0, False: 0}
        for scene, offers, promises in cases(85, 60):
            found = least_change(scene, offers, promises)
            self.assertIs(are_papers(scene, offers, promises, found), True)
            thing = list(variants(found))
            for other in chance.sample(thing, min(len(thing), 60)):
                wanted = self.is_like_an_answer(offers, other) and are_papers_there(scene, offers, promises, other)
                counts[wanted] += 1
                self.assertIs(are_papers(scene, offers, promises, other), wanted, (offers, promises, other))
        self.assertGreater(min(counts.values()), 30, counts)

    def is_like_an_answer(self, offers, thing):
        if not isinstance(thing, tuple) or len(thing) < 2 or not isinstance(thing[-1], list):
            return False
        if not all(isinstance(paper, tuple) and len(paper) == 3 for paper in thing[-1]):
            return False
        if len(thing) == 2:
            return thing[0] == "never"
        return len(thing) == 3 and thing[0] == "choice" and repr(thing[1]) in map(repr, choices(offers))

    def test_each_thing_changed(self):
        scene = scene_of()
        found = least_change(scene, OFFERS, ["two", "twice"])
        self.assertEqual(found[1], [1])
        counts = {True: 0, False: 0}
        for thing in variants(found):
            wanted = self.is_like_an_answer(OFFERS, thing) and are_papers_there(scene, OFFERS, ["two", "twice"], thing)
            counts[wanted] += 1
            self.assertIs(are_papers(scene, OFFERS, ["two", "twice"], thing), wanted, thing)
        self.assertGreater(counts[False], 100)

    def test_other_papers(self):
        scene = scene_of()
        word, choice, papers = least_change(scene, OFFERS, ["two", "twice"])
        twice = ([], "twice", check(scene, "twice"))
        # Another one of the promises, another breach, but not a promise that was not asked for.
        self.assertIs(are_papers(scene, OFFERS, ["two", "twice"], (word, choice, [twice, papers[1]])), True)
        self.assertIs(are_papers(scene, OFFERS, ["two"], (word, choice, [twice, papers[1]])), False)
        longer = ([], "two", ("breaks", [("tick",), *papers[0][2][1]]))
        self.assertIs(are_papers(scene, OFFERS, ["two"], (word, choice, [longer, papers[1]])), True)
        tail = ([], "two", ("breaks", [("tick",)] * 4000 + papers[0][2][1]))
        self.assertIs(are_papers(scene, OFFERS, ["two"], (word, choice, [tail, papers[1]])), False)
        # Nothing has to be shown for the choice that is returned, and it may be an earlier one.
        self.assertIs(are_papers(scene, OFFERS, ["two", "twice"], ("choice", [], [])), True)
        self.assertIs(are_papers(scene, OFFERS, ["two", "twice"], ("choice", [0], papers[:1])), True)
        self.assertIs(are_papers(scene, OFFERS, ["two", "twice"], ("choice", [0], papers)), False)
        self.assertIs(are_papers(scene, OFFERS, ["two", "twice"], ("never", papers)), False)
        self.assertIs(are_papers(scene, OFFERS, ["two", "twice"], ("choice", [True], papers)), False)
        self.assertIs(are_papers(scene, OFFERS, ["two", "twice"], ("choice", [0, 2], papers)), False)
        self.assertIs(are_papers(scene, OFFERS, ["two", "twice"], ("choice", (1,), papers)), False)
        # The papers of one choice do not show anything for another one.
        self.assertIs(are_papers(scene, OFFERS, ["two", "twice"], (word, choice, papers[::-1])), False)
        other = [papers[0], ([0], *twice[1:])]
        self.assertIs(are_papers(scene, OFFERS, ["two", "twice"], (word, choice, other)), False)

    def test_never(self):
        scene = scene_of("hold ever", workers=1, may=("crash",))
        offers = ["skip no", "order key"]
        found = least_change(scene, offers, ["settled"])
        self.assertIs(are_papers(scene, offers, ["settled"], found), True)
        self.assertIs(are_papers(scene, offers, ["effect", "settled"], found), True)
        self.assertIs(are_papers(scene, offers, ["effect"], found), False)
        papers = found[1]
        for thing in [("never", papers[:-1]), ("never", papers + papers[-1:]), ("never", []), ("choice", papers)]:
            self.assertIs(are_papers(scene, offers, ["settled"], thing), False)
        # What shows a wish does not show a promise.
        choice, promise, answer = papers[0]
        for other in [answer[:2], answer + ([],), ("holds", *answer[1:]), list(answer), (answer[1], answer[2]), ()]:
            thing = ("never", [(choice, promise, other), *papers[1:]])
            self.assertIs(are_papers(scene, offers, ["settled"], thing), False)

    def test_any_value(self):
        scene = scene_of()
        papers = least_change(scene, OFFERS, ["two"])[2]
        for thing in THINGS:
            self.assertIs(are_papers(scene, OFFERS, ["two"], thing), False)
            for other in [("never", thing), ("choice", thing, []), ("choice", [1], thing), (thing, [1], papers)]:
                wanted = repr(other) in [repr(("choice", [], []))]
                self.assertIs(are_papers(scene, OFFERS, ["two"], other), wanted, other)
            for other in [(thing, "two", papers[0][2]), ([], thing, papers[0][2]), ([], "two", thing)]:
                wanted = repr(other) == repr(papers[0])
                self.assertIs(are_papers(scene, OFFERS, ["two"], ("choice", [1], [other, papers[1]])), wanted)
            other = ([], "two", ("breaks", thing))
            self.assertIs(are_papers(scene, OFFERS, ["two"], ("choice", [1], [other, papers[1]])), False)


if __name__ == "__main__":
    unittest.main()
