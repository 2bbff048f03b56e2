"""[21]: plans."""

import copy
import itertools
import unittest

from rowqueue.errors import NoPlan, QueueError
from rowqueue.plans import is_plan, place_of, read_plan, show_plan

PLAN = [("take",), ("check", "effect"), ("finish",)]


def all_plans():
    """Each order of the words, with and without check and follow, cut into one to four transactions."""
    for extra in [(), ("check",), ("follow",), ("check", "follow")]:
        for words in itertools.permutations(("effect", "finish") + extra):
            gaps = range(1, len(words))
            for many in range(len(words)):
                for cuts in itertools.combinations(gaps, many):
                    edges = [0, *cuts, len(words)]
                    yield [("take",)] + [words[low:high] for low, high in zip(edges, edges[1:])]


class IsPlan(unittest.TestCase):
    def test_every_plan(self):
        plans = list(all_plans())
        self.assertEqual(len(plans), 2 * 2 + 2 * 6 * 4 + 24 * 8)
        for plan in plans:
            self.assertIs(is_plan(plan), True)

    def test_forms(self):
        for thing in [
            tuple(PLAN),
            [],
            [("take",)],
            [("effect", "finish")],
            [["take"], ("effect",), ("finish",)],
            [("take",), ["effect"], ("finish",)],
            [["take"], ["effect"], ["finish"]],
            [("take",), (), ("effect",), ("finish",)],
            [("take",), ("effect",), ("finish",), ()],
            [(), ("take",), ("effect",), ("finish",)],
            [("take",), "effect", ("finish",)],
            ["take", "effect", "finish"],
            [("take",), ("check",), ("effect",), ("finish",), ("follow",), ("follow",)],
            [("take",), ("check",), ("effect",), ("finish",), ("follow",), ()],
        ]:
            self.assertIs(is_plan(thing), False, thing)

    def test_words(self):
        for words in [
            ("effect",),
            ("finish",),
            ("check", "follow"),
            ("effect", "effect", "finish"),
            ("effect", "finish", "finish"),
            ("effect", "finish", "check", "check"),
            ("effect", "finish", "follow", "follow"),
            ("effect", "finish", "take"),
            ("take", "effect", "finish"),
            ("effect", "finish", "wait"),
            ("effect", "finish", ""),
            ("effect", "finish ", "check"),
            ("Effect", "finish"),
            ("effect", "finish\n"),
        ]:
            self.assertIs(is_plan([("take",), words]), False, words)
            self.assertIs(is_plan([("take",)] + [(word,) for word in words]), False, words)

    def test_a_word_twice_in_two_transactions(self):
        for word in ["check", "effect", "finish", "follow"]:
            plan = [("take",), ("check", "effect"), ("finish", "follow"), (word,)]
            self.assertIs(is_plan(plan), False, word)
            self.assertIs(is_plan(plan[:3]), True)

    def test_takes(self):
        for thing in [
            [("effect",), ("finish",)],
            [("take",), ("take",), ("effect", "finish")],
            [("take", "take"), ("effect", "finish")],
            [("take", "effect"), ("finish",)],
            [("effect", "take"), ("finish",)],
            [("effect",), ("take",), ("finish",)],
            [("take",), ("effect",), ("finish", "take")],
            [("check",), ("effect", "finish")],
            [("Take",), ("effect", "finish")],
        ]:
            self.assertIs(is_plan(thing), False, thing)

    def test_values_of_other_kinds(self):
        for thing in [None, True, 0, -1, 10**50, "take effect finish", b"take", {}, {"take": 1}, (), set(), object()]:
            self.assertIs(is_plan(thing), False)
            self.assertIs(is_plan([("take",), ("effect",), ("finish",), thing]), False)
            self.assertIs(is_plan([thing, ("effect",), ("finish",)]), False)
            self.assertIs(is_plan([("take",), ("effect", thing), ("finish",)]), False)
            self.assertIs(is_plan([(thing,), ("effect",), ("finish",)]), False)

    def test_great_values(self):
        self.assertIs(is_plan([("take",)] * 60000), False)
        self.assertIs(is_plan([("take",), ("effect",) * 80000]), False)

    def test_what_was_passed_in_stays(self):
        for thing in [list(PLAN), [["take"], [("effect",)]], {"a": [1]}]:
            before = copy.deepcopy(thing)
            is_plan(thing)
            self.assertEqual(thing, before)


class Texts(unittest.TestCase):
    def test_the_text_of_the_document(self):
        self.assertEqual(show_plan(PLAN), "take check+effect finish")
        self.assertEqual(read_plan("take check+effect finish"), PLAN)

    def test_back_and_forth(self):
        texts = []
        for plan in all_plans():
            before = list(plan)
            text = show_plan(plan)
            self.assertEqual(plan, before)
            self.assertEqual(read_plan(text), plan)
            texts.append(text)
        self.assertEqual(len(set(texts)), len(texts))
        self.assertIn("take finish+follow+check+effect", texts)

    def test_each_call_returns_a_new_list(self):
        first = read_plan("take effect finish")
        first.append(("check",))
        first[1] = ("other",)
        self.assertEqual(read_plan("take effect finish"), [("take",), ("effect",), ("finish",)])

    def refuse(self, text):
        with self.assertRaises(NoPlan) as caught:
            read_plan(text)
        self.assertIs(type(caught.exception), NoPlan)
        self.assertIsInstance(caught.exception, QueueError)

    def test_bad_texts(self):
        for text in [
            "",
            " ",
            "+",
            "\n",
            "take",
            "effect finish",
            "take  effect finish",
            " take effect finish",
            "take effect finish ",
            "take effect finish\n",
            "take effect\nfinish",
            "take effect finish+",
            "take +effect finish",
            "take effect++finish",
            "take + effect finish",
            "+take effect finish",
            "take+effect finish",
            "take effect finish effect",
            "take Effect finish",
            "take effect finsh",
            "take effect,finish",
            "take effect finish check follow check",
            "take\teffect finish",
            "take effect finish\u00a0",
        ]:
            self.refuse(text)

    def test_one_sign_missing_or_doubled_or_another(self):
        text = "take check+effect finish"
        for at in range(len(text)):
            self.refuse(text[:at] + text[at + 1 :])
            self.refuse(text[:at] + text[at] + text[at:])
            self.refuse(text[:at] + "." + text[at + 1 :])

    def test_what_is_no_text(self):
        for thing in [None, True, 0, 10**50, b"take effect finish", PLAN, tuple(PLAN), {}, {"take": 1}, object()]:
            self.refuse(thing)
        self.refuse("take effect finish " * 4000)


class PlaceOf(unittest.TestCase):
    def test_each_word(self):
        self.assertEqual(place_of(PLAN, "take"), 0)
        self.assertEqual(place_of(PLAN, "check"), 1)
        self.assertEqual(place_of(PLAN, "effect"), 1)
        self.assertEqual(place_of(PLAN, "finish"), 2)
        self.assertIs(place_of(PLAN, "follow"), None)

    def test_every_plan(self):
        for plan in all_plans():
            before = list(plan)
            for word in ["take", "check", "effect", "finish", "follow"]:
                places = [at for at in range(len(plan)) if word in plan[at]]
                self.assertEqual(place_of(plan, word), places[0] if places else None)
            self.assertEqual(plan, before)


if __name__ == "__main__":
    unittest.main()
