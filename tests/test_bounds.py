"""[72] to [74], and what [6] says of counts."""

import copy
import random
import unittest

from rowqueue.bounds import at_most, is_bounded, is_turn
from rowqueue.machine import is_state, is_weaving, start, step
from tests.anything import THINGS
from tests.cases import Case, scene_of
from tests.counting import Counting
from tests.samples import state_by_lot
from tests.search import Large, Search, gap_scenes, small_scenes, variants

WORDS = ["takes", "passed", "waits", "gap"]
TWO = [("a", 0, "here"), ("b", 0, "here")]


def counts_of(scene):
    return [(word, row) for row in range(len(scene.rows())) for word in WORDS]


def same(thing, other):
    return repr(thing) == repr(other)


class AtMost(Case):
    def test_beside_a_search(self):
        told = {(word, kind): 0 for word in WORDS for kind in ("most", "none", "ever")}
        for scene, search in small_scenes(61, 250)[:100] + small_scenes(73, 200, 120, prompts=1) + gap_scenes(75, 120):
            for count in counts_of(scene):
                counting = Counting(search, count)
                marks = counting.marks()
                found = at_most(scene, count)
                told[count[0], found[0]] += 1
                self.assertIs(type(found), tuple)
                if marks is None:
                    self.look_at_ever(scene, counting, count, found)
                else:
                    self.look_at_most(scene, counting, count, found, marks)
        del told["takes", "none"]
        self.assertGreater(min(told.values()), 10, told)

    def look_at_ever(self, scene, counting, count, found):
        word, weaving, begin, turn, rest = found
        self.assertEqual(word, "ever", (scene.setting, count))
        for deeds in (weaving, turn, rest):
            self.assertIs(is_weaving(scene, deeds), True)
        self.assertIs(counting.is_turn(weaving, begin, turn, rest), True, (scene.setting, count, found))
        self.assertIs(is_turn(scene, count, weaving, begin, turn, rest), True)
        if count[0] == "takes":
            self.assertEqual(begin, 0)
        if count[0] == "gap":
            self.assertGreater(len(rest), 0)

    def look_at_most(self, scene, counting, count, found, marks):
        self.assertEqual(found[-1], sorted(marks.items(), key=lambda item: item[0]), (scene.setting, count))
        numbers = [marks[state] for state in counting.begins() if marks[state] is not None]
        if not numbers:
            self.assertEqual(found, ("none", found[-1]))
            self.assertIs(is_bounded(scene, count, None, found[-1]), True)
            return
        word, number, weaving, begin, _ = found
        self.assertEqual((word, number), ("most", max(numbers)))
        self.assertIs(is_weaving(scene, weaving), True)
        self.assertIs(counting.is_begin(weaving[:begin]), True)
        state = counting.search.end_of(weaving[:begin])
        _, reached, good, end = counting.go(state, weaving[begin:])
        self.assertEqual((reached, good, end), (number, True, True), (scene.setting, count, found))
        if count[0] == "takes":
            self.assertEqual(begin, 0)
        self.assertIs(is_bounded(scene, count, number, found[-1]), True)

    def test_most_is_the_number_of_all_reached_states(self):
        for scene, search in small_scenes(61, 250)[:60]:
            many = len(search.weavings)
            for count in counts_of(scene):
                at_most(scene, count, most=many)
                if many > 1:
                    self.too_many(many - 1, at_most, scene, count)
        great = scene_of("hold 3", "once 3", workers=3)
        for word in WORDS:
            self.too_many(1000, lambda scene, count, most: at_most(scene, count), great, (word, 0))
            self.too_many(1629, at_most, great, (word, 0))
            self.assertIn(at_most(great, (word, 0), most=1630)[0], ["most", "ever", "none"])

    def test_takes(self):
        for number, lines, may in [(1, ["hold ever"], ()), (2, ["tries 2"], ()), (4, ["tries 4"], ("fail",))]:
            found = at_most(scene_of(*lines, may=may, workers=2), ("takes", 0))
            self.assertEqual(found[:2], ("most", number))
            self.assertEqual(found[3], 0)
        for lines, may in [([], ()), (["hold ever", "tries 1"], ("give",)), (["tries 2", "count fail"], ())]:
            self.assertEqual(at_most(scene_of(*lines, may=may), ("takes", 0))[0], "ever")
        # A row that never comes is taken at most 0 times.
        found = at_most(scene_of(rows=[("a", 0, "here"), ("b", 0, 0)]), ("takes", 1))
        self.assertEqual(found[:4], ("most", 0, [], 0))
        self.assertEqual({mark for _, mark in found[4]}, {0})

    def test_three_workers_on_one_row(self):
        # With fence no nobody becomes idle ahead of the end of its plan: each worker takes it once.
        scene = scene_of("fence no", "hold 1", workers=3)
        word, number, weaving, begin, marks = at_most(scene, ("takes", 0))
        self.assertEqual([word, number, begin], ["most", 3, 0])
        self.assertEqual([deed for deed in weaving if deed != ("tick",)], [("part", w) for w in self.order(weaving)])
        self.assertEqual(dict(marks)[start(scene)], 3)

    def order(self, weaving):
        return [deed[1] for deed in weaving if deed[0] == "part"]

    def test_passed(self):
        rows = [("a", 0, "here"), ("b", 5, "here"), ("c", 9, "here")]
        for order, row, number in [("oldest", 2, 2), ("oldest", 0, 2), ("weight", 0, 2), ("weight", 2, 0)]:
            scene = scene_of(f"order {order}", "hold ever", rows=rows, prompt=True)
            found = at_most(scene, ("passed", row))
            # The row that is looked at first is taken itself.
            first = (order, row) in [("oldest", 0), ("weight", 2)]
            self.assertEqual(found[:2], ("most", 0 if first else number))
        # A row that is barred is not free: of one key nothing passes.
        rows = [("a", 0, "here"), ("a", 0, "here"), ("b", 0, "late")]
        found = at_most(scene_of("order key", "hold ever", rows=rows), ("passed", 1))
        self.assertEqual(found[:2], ("most", 0))
        free = [state for state, mark in found[4] if mark is not None]
        self.assertTrue(all(state[0][0][0] in ("done", "dead") and state[0][1][0] == "ready" for state in free))
        rows = [("a", 0, "here"), ("a", 0, "here"), ("b", 0, "here")]
        self.assertEqual(at_most(scene_of("order key", "hold ever", rows=rows), ("passed", 2))[:2], ("most", 2))

    def test_nothing_is_free(self):
        for word in ["passed", "waits"]:
            found = at_most(scene_of(rows=[("a", 0, "here"), ("b", 0, 0)]), (word, 1))
            self.assertEqual(found[0], "none")
            self.assertEqual({mark for _, mark in found[1]}, {None})

    def test_waits(self):
        # Time goes on for ever while a row is free and nobody is prompt.
        word, weaving, begin, turn, rest = at_most(scene_of(), ("waits", 0))
        self.assertEqual([word, weaving, begin, turn, rest], ["ever", [], 0, [("tick",)], []])
        # A tick that is held up does not count.
        found = at_most(scene_of(prompt=True), ("waits", 0))
        self.assertEqual(found[:2], ("most", 0))
        self.assertEqual(step(scene_of(prompt=True), start(scene_of()), ("tick",)), (start(scene_of()), ()))
        # Two rows and one worker: the second one waits until the first one is done, or its hold ends.
        found = at_most(scene_of("hold 3", "pause 2", rows=TWO, prompt=True), ("waits", 1))
        self.assertEqual(found[0], "most")
        self.assertEqual(found[1], self.slowest_wait(found))

    def slowest_wait(self, found):
        return len([deed for deed in found[2][found[3] :] if deed == ("tick",)])

    def test_gap(self):
        self.assertEqual(at_most(scene_of("hold ever", may=("crash",)), ("gap", 0))[0], "none")
        self.assertEqual(at_most(scene_of("hold ever", may=("crash",)), ("gap", 0))[1][0][1], None)
        self.assertEqual(at_most(scene_of(may=("crash",)), ("gap", 0))[0], "ever")
        found = at_most(scene_of("tries 2", prompt=True), ("gap", 0))
        self.assertEqual(found[:2], ("most", 4))
        weaving, begin = found[2], found[3]
        self.assertEqual(weaving[begin - 1], ("part", 0))
        self.assertEqual(weaving[-1], ("part", 0))

    def test_plans_with_finish_or_follow_ahead_of_the_effect(self):
        for plan in ["finish effect", "follow effect finish", "finish follow effect", "check finish+effect"]:
            for prompt in [True, False]:
                scene = scene_of(f"plan take {plan}", "tries 2", "fence no", workers=2, prompt=prompt)
                for word in WORDS:
                    found = at_most(scene, (word, 0), most=2000)
                    if found[0] == "ever":
                        self.assertIs(is_turn(scene, (word, 0), *found[1:]), True)
                    else:
                        number = found[1] if found[0] == "most" else None
                        self.assertIs(is_bounded(scene, (word, 0), number, found[-1]), True)

    def test_answers_are_the_callers(self):
        for lines, count in [([], ("waits", 0)), (["tries 2"], ("takes", 0)), (["hold ever"], ("gap", 0))]:
            first = at_most(scene_of(*lines), count)
            before = copy.deepcopy(first)
            for part in first:
                if isinstance(part, list):
                    part.clear()
            self.assertEqual(at_most(scene_of(*lines), count), before)
            lists = [part for part in at_most(scene_of(*lines), count) if isinstance(part, list)]
            self.assertEqual(len({id(part) for part in lists}), len(lists))


class Bounded(Case):
    def bounds(self, seed, many, limit):
        """What at_most returns, where there is a bound: tuples of a scene, a counting, a count, a number, marks."""
        for scene, search in small_scenes(seed, many, limit) + gap_scenes(76, 40, 60):
            for count in counts_of(scene):
                found = at_most(scene, count)
                if found[0] != "ever":
                    yield scene, Counting(search, count), count, found[1] if found[0] == "most" else None, found[-1]

    def test_numbers(self):
        chance = random.Random(74)
        for scene, _, count, number, marks in self.bounds(62, 120, 60):
            self.assertIs(is_bounded(scene, count, number, marks), True)
            self.assertIs(is_bounded(scene, count, number, chance.sample(marks, len(marks))), True)
            if number is None:
                self.assertIs(is_bounded(scene, count, 0, marks), True)
                continue
            self.assertIs(is_bounded(scene, count, number + 1, marks), True)
            self.assertIs(is_bounded(scene, count, 10**40, marks), True)
            self.assertIs(is_bounded(scene, count, None, marks), False)
            if number > 0:
                self.assertIs(is_bounded(scene, count, number - 1, marks), False)
                self.assertIs(is_bounded(scene, count, 0, marks), False)

    def test_other_marks(self):
        """Beside the words of [74], with some marks changed."""
        chance = random.Random(75)
        counts = {(word, wanted): 0 for word in WORDS for wanted in (True, False)}
        for scene, counting, count, number, marks in self.bounds(62, 120, 60):
            for _ in range(8):
                thing = list(marks)
                for at in chance.choices(range(len(thing)), k=chance.choice([1, 1, 2, len(thing)])):
                    state, mark = thing[at]
                    if mark is None:
                        thing[at] = (state, chance.choice([0, 5, None]))
                    else:
                        thing[at] = (state, chance.choice([mark + 1, max(mark - 1, 0), None, mark + 9, mark]))
                bound = None if number is None else number + chance.choice([0, 0, 1, 9])
                wanted = counting.is_bounded(bound, thing)
                counts[count[0], wanted] += 1
                self.assertIs(is_bounded(scene, count, bound, thing), wanted, (scene.setting, count, bound, thing))
        self.assertGreater(min(counts.values()), 20, counts)

    def test_more_states_besides(self):
        """States that need not be reached, with all that the deeds lead to from them, and the marks of all."""
        chance = random.Random(78)
        counts = {(word, wanted): 0 for word in WORDS for wanted in (True, False)}
        higher = 0
        for scene, search in small_scenes(62, 120, 60)[:70] + gap_scenes(75, 120)[:50]:
            more = [state_by_lot(chance, search.oracle) for _ in range(2)]
            try:
                search = Search(search.oracle, search.deeds, 200, more)
            except Large:
                continue
            for count in counts_of(scene):
                counting = Counting(search, count)
                marks = counting.marks()
                if marks is None:
                    continue
                thing = list(marks.items())
                numbers = [marks[state] for state in counting.begins() if marks[state] is not None]
                number = max(numbers, default=None)
                # Where counting does not begin, a mark may be greater than the number.
                higher += any(mark is not None and (number is None or mark > number) for mark in marks.values())
                self.assertIs(is_bounded(scene, count, number, thing), True, (scene.setting, count, thing))
                for other in [None, 0, 1, 2, 5]:
                    wanted = counting.is_bounded(other, thing)
                    counts[count[0], wanted] += 1
                    self.assertIs(is_bounded(scene, count, other, thing), wanted, (scene.setting, count, thing))
        self.assertGreater(min(counts.values()), 10, counts)
        self.assertGreater(higher, 10)

    def test_marks_where_nothing_bounds_them(self):
        """Where the number has no bound no marks show one."""
        for scene, search in small_scenes(62, 120, 60):
            for count in counts_of(scene):
                if at_most(scene, count)[0] == "ever":
                    counting = Counting(search, count)
                    for number in (0, 7):
                        states = search.states()
                        marks = [(state, number if self.may_have(counting, state) else None) for state in states]
                        self.assertIs(is_bounded(scene, count, number, marks), False)

    def may_have(self, counting, state):
        return counting.word in ("takes", "gap") or counting.is_free(state)

    def test_each_thing_changed(self):
        chance = random.Random(76)
        kinds = set()
        for scene, counting, count, number, marks in self.bounds(62, 120, 60):
            if len(marks) > 30:
                continue
            states = {repr(state) for state, _ in marks}
            changed = list(variants(marks))
            for thing in chance.sample(changed, min(len(changed), 60)):
                wanted = isinstance(thing, list) and all(self.is_marked(scene, item) for item in thing)
                wanted = wanted and states <= {repr(item[0]) for item in thing} and counting.is_bounded(number, thing)
                kinds.add(wanted)
                self.assertIs(is_bounded(scene, count, number, thing), wanted, (scene.setting, count, thing))
        self.assertEqual(kinds, {True, False})

    def is_marked(self, scene, item):
        if not isinstance(item, tuple) or len(item) != 2 or not is_state(scene, item[0]):
            return False
        return item[1] is None or (type(item[1]) is int and item[1] >= 0)

    def test_parts_of_states_at_any_depth(self):
        scene = scene_of("hold 1", "tries 2")
        marks = at_most(scene, ("takes", 0))[-1]
        for at, (state, mark) in enumerate(marks):
            for other in variants(state):
                thing = marks[:at] + [(other, mark)] + marks[at + 1 :]
                self.assertIs(is_bounded(scene, ("takes", 0), 2, thing), False, other)
            for other in [True, False, -1, None, "0", (mark,), [mark]]:
                thing = marks[:at] + [(state, other)] + marks[at + 1 :]
                self.assertIs(is_bounded(scene, ("takes", 0), 2, thing), False, other)
            for other in [(state,), (state, mark, mark), [state, mark], (mark, state), state, None]:
                self.assertIs(is_bounded(scene, ("takes", 0), 2, marks[:at] + [other] + marks[at + 1 :]), False)

    def test_states_that_are_not_reached(self):
        scene = scene_of("hold ever")
        marks = at_most(scene, ("takes", 0))[-1]
        dead = ((("dead", 0, 0, 0, 0),), ((),))
        for mark in [0, 1, 50]:
            self.assertIs(is_bounded(scene, ("takes", 0), 1, marks + [(dead, mark)]), True)
        self.assertIs(is_bounded(scene, ("takes", 0), 1, marks + [(dead, None)]), False)
        # Counting begins in each state of the list in which the row is free.
        marks = at_most(scene, ("passed", 0))[-1]
        ready = ((("ready", 0, 0, 2, 0),), ((),))
        held = ((("held", 0, 0, 2, 0),), ((1, 0, True, 0, 0),))
        more = [(held, None), (((("held", 0, 0, 2, 0),), ((2, 0, True, 0, 0),)), None)]
        more.append((((("done", 0, 0, 2, 0),), ((),)), None))
        self.assertIs(is_bounded(scene, ("passed", 0), 0, marks + more + [(ready, 0)]), True)
        self.assertIs(is_bounded(scene, ("passed", 0), 0, marks + more + [(ready, 1)]), False)
        self.assertIs(is_bounded(scene, ("passed", 0), 1, marks + more + [(ready, 1)]), True)
        self.assertIs(is_bounded(scene, ("passed", 0), 1, marks + more + [(ready, None)]), False)
        self.assertIs(is_bounded(scene, ("passed", 0), 1, marks + [(ready, 1)]), False)

    def test_any_value(self):
        for scene in [scene_of(), scene_of("hold 1", workers=2), scene_of(rows=TWO, workers=3)]:
            for word in WORDS:
                for thing in THINGS:
                    for number in [None, 0, 5]:
                        self.assertIs(is_bounded(scene, (word, 0), number, thing), False)


class Turn(Case):
    def turns(self):
        for scene, search in small_scenes(61, 250)[:80] + small_scenes(73, 200, 120, prompts=1)[:80]:
            for count in counts_of(scene):
                found = at_most(scene, count)
                if found[0] == "ever":
                    yield scene, Counting(search, count), count, found[1:]

    def test_each_deed_changed(self):
        chance = random.Random(77)
        counts = {(word, wanted): 0 for word in WORDS for wanted in (True, False)}
        for scene, counting, count, parts in self.turns():
            self.assertIs(is_turn(scene, count, *parts), True)
            for at in range(4):
                changed = list(variants(parts[at]))
                for thing in chance.sample(changed, min(len(changed), 8)):
                    other = parts[:at] + (thing,) + parts[at + 1 :]
                    wanted = self.is_like_a_turn(scene, other) and counting.is_turn(*other)
                    counts[count[0], wanted] += 1
                    self.assertIs(is_turn(scene, count, *other), wanted, (scene.setting, count, other))
        self.assertGreater(min(counts.values()), 10, counts)

    def is_like_a_turn(self, scene, parts):
        deeds = [repr(deed) for deed in scene.deeds()]
        lists = [part for at, part in enumerate(parts) if at != 1]
        if type(parts[1]) is not int or not all(isinstance(part, list) for part in lists):
            return False
        return all(repr(deed) in deeds for part in lists for deed in part)

    def test_other_begins(self):
        counts = {True: 0, False: 0}
        for scene, counting, count, (weaving, begin, turn, rest) in self.turns():
            for other in range(-2, len(weaving) + 3):
                wanted = counting.is_turn(weaving, other, turn, rest)
                self.assertIs(is_turn(scene, count, weaving, other, turn, rest), wanted)
                counts[wanted] += 1
            for other in [None, str(begin), [begin], (begin,), 10**50, -1, begin == 1, float]:
                self.assertIs(is_turn(scene, count, weaving, other, turn, rest), False)
        self.assertGreater(min(counts.values()), 50)

    def test_begin_is_0_for_takes(self):
        scene = scene_of()
        turn = [("part", 0), ("tick",), ("tick",), ("part", 0), ("part", 0)]
        word, weaving, begin, turn, rest = at_most(scene, ("takes", 0))
        self.assertEqual([word, begin], ["ever", 0])
        ticks = [("tick",)] * 3
        self.assertIs(is_turn(scene, ("takes", 0), ticks + weaving, 0, turn, rest), True)
        # In the first state, but not at the beginning.
        self.assertIs(is_turn(scene, ("takes", 0), ticks + weaving, 1, turn, rest), False)
        self.assertIs(is_turn(scene, ("takes", 0), weaving, 0, [], rest), False)
        self.assertIs(is_turn(scene, ("takes", 0), weaving, 0, turn, [("tick",)] * 9), True)
        self.assertIs(is_turn(scene, ("takes", 0), weaving, 0, turn * 100, []), True)

    def test_turns_that_count_nothing(self):
        scene = scene_of(prompt=True)
        self.assertIs(is_turn(scene, ("waits", 0), [], 0, [("tick",)], []), False)
        self.assertIs(is_turn(scene_of(), ("waits", 0), [], 0, [("tick",)], []), True)
        self.assertIs(is_turn(scene_of(), ("passed", 0), [], 0, [("tick",)], []), False)
        self.assertIs(is_turn(scene_of(), ("waits", 0), [], 0, [], []), False)
        self.assertIs(is_turn(scene_of(), ("waits", 0), [], 0, [("tick",)], [("part", 0)]), False)
        self.assertIs(is_turn(scene_of(), ("waits", 0), [("part", 0)], 0, [("tick",)], []), False)
        # The row is free again behind this, but between it was not.
        held = [("part", 0), ("tick",), ("tick",)]
        self.assertIs(is_turn(scene_of(), ("waits", 0), [], 0, [("tick",)], held), False)
        self.assertIs(is_turn(scene_of(), ("waits", 0), held, 0, [("tick",)], []), False)
        self.assertIs(is_turn(scene_of(), ("waits", 0), held, 3, [("tick",)], []), True)
        again = [*held, ("part", 1), ("tick",), ("tick",)]
        self.assertIs(is_turn(scene_of(workers=2), ("waits", 0), again, 3, [("tick",)], []), False)
        self.assertIs(is_turn(scene_of(workers=2), ("waits", 0), again, 6, [("tick",)], []), True)
        self.assertIs(is_turn(scene_of(), ("waits", 0), [("tick",)] * 4000, 17, [("tick",)] * 4000, []), True)

    def test_rests_of_gaps(self):
        scene = scene_of("hold link", may=("crash",), workers=2)
        word, weaving, begin, turn, rest = at_most(scene, ("gap", 0))
        self.assertEqual(word, "ever")
        self.assertIs(is_turn(scene, ("gap", 0), weaving, begin, turn, rest), True)
        self.assertIs(is_turn(scene, ("gap", 0), weaving, begin, turn, []), False)
        self.assertIs(is_turn(scene, ("gap", 0), weaving, begin, turn, rest + [("tick",)]), False)
        self.assertIs(is_turn(scene, ("gap", 0), weaving, begin, turn, rest[:-1]), False)
        # It may go on behind a later try.
        again = [("crash", 0), ("crash", 1), ("part", 0), ("part", 0)]
        self.assertIs(is_turn(scene, ("gap", 0), weaving, begin, turn, rest + again), True)

    def test_any_value(self):
        scene = scene_of()
        for word in WORDS:
            for thing in THINGS:
                self.assertIs(is_turn(scene, (word, 0), thing, thing, thing, thing), False)
                self.assertIs(is_turn(scene, (word, 0), [], 0, thing, []), self.is_free_turn(word, thing))
                for at in range(3):
                    parts = [[], 0, [("tick",)], []]
                    parts[at] = thing
                    wanted = word == "waits" and self.fits(at, thing)
                    self.assertIs(is_turn(scene, (word, 0), *parts), wanted, (word, at, thing))

    def is_free_turn(self, word, thing):
        return word == "waits" and self.fits(2, thing)

    def fits(self, at, thing):
        ticks = type(thing) is list and all(same(item, ("tick",)) for item in thing)
        if at == 1:
            return same(thing, 0)
        return ticks and (at != 2 or thing != [])


if __name__ == "__main__":
    unittest.main()
