"""[102], [103] and [13]: workers that look at a row, perhaps on an old copy, and then mark it."""

import copy
import random
import unittest

from rowqueue.copies import Reading, check
from rowqueue.errors import TooMany
from rowqueue.machine import is_state
from rowqueue.safety import check as check_scene
from rowqueue.scenes import Scene
from rowqueue.settings import Setting
from tests.cases import Case, scene_of
from tests.looking import Looker
from tests.samples import ACCIDENTS, deeds_by_lot, lines_by_lot, rows_by_lot, state_by_lot
from tests.search import Large, Search, is_bad

PROMISES = ["twice", "two", "order", "gone"]
TWO = [("a", 0, "here"), ("b", 0, "here")]
WORDS = ["free", "busy", "dead", "away", "was"]


def reading_of(*lines, late=False, **named):
    return Reading(scene_of(*lines, **named), late)


def reading_by_lot(chance, most=3, workers=3):
    """A reading and the second machine for it."""
    lines, rows, many = lines_by_lot(chance), rows_by_lot(chance, most), chance.randint(1, workers)
    may = tuple(word for word in ACCIDENTS if chance.random() < 0.5)
    late = chance.random() < 0.6
    scene = Scene(Setting(lines), rows, workers=many, may=may)
    return Reading(scene, late), Looker(lines, rows, many, may, late)


def reading_of_a_key(chance):
    """A reading of two rows of one key, which often are not in order, and the second machine for it."""
    rows, lines = [("a", 0, "here"), ("a", 1, "here")], [f"tries {chance.choice('12')}", "hold 1", "once ever"]
    lines += [f"fence {chance.choice(['yes', 'no', 'no'])}", f"order {chance.choice(['oldest', 'weight', 'key'])}"]
    may, many, late = chance.choice([(), ("crash",)]), chance.choice([1, 1, 2]), chance.random() < 0.5
    return Reading(Scene(Setting(lines), rows, workers=many, may=may), late), Looker(lines, rows, many, may, late)


def small_readings(seed, many, limit=250, draw=lambda chance: reading_by_lot(chance, 2, 2)):
    """Tuples of a reading, its second machine, and a search of all reached states."""
    chance = random.Random(seed)
    found = []
    while len(found) < many:
        reading, looker = draw(chance)
        try:
            found.append((reading, looker, Search(looker, reading.deeds(), limit)))
        except Large:
            continue
    return found


def held(ticks=2, effects=0):
    return ("held", ticks, 0, effects, 0)


READY = ("ready", 0, 0, 0, 0)


class Steps(Case):
    """Each sentence of [102]."""

    def goes(self, reading, state, deed, after, answer):
        before = copy.deepcopy(state)
        for _ in range(2):
            self.assertEqual(reading.step(state, deed), (after, answer))
        self.assertEqual(state, before)

    def test_first(self):
        rows = [("a", 0, "here"), ("b", 0, "late"), ("c", 0, 0)]
        places = tuple((place, 0, 0, 0, 0) for place in ("ready", "yet", "yet"))
        self.assertEqual(reading_of(rows=rows, workers=2).first(), (places, ((), ()), ()))
        words = ("free", "away", "away")
        self.assertEqual(reading_of(rows=rows, workers=2, late=True).first(), (places, ((), ()), words))

    def test_deeds(self):
        for named in [{}, {"may": ("crash", "more"), "workers": 2}, {"rows": [("a", 0, "late")]}]:
            deeds = scene_of(**named).deeds()
            self.assertEqual(reading_of(**named).deeds(), deeds)
            self.assertEqual(reading_of(late=True, **named).deeds(), sorted(deeds + [("copy",)]))
        reading = reading_of(late=True)
        reading.deeds().clear()
        self.assertEqual(reading.deeds(), [("copy",), ("part", 0), ("tick",)])

    def test_look_and_mark(self):
        for lines, hand in [
            ([], (1, 0, True, 0, 0)),
            (["plan take check effect finish", "slow 1"], (1, 0, True, 2, 1)),
            (["plan take check effect finish", "margin 2", "slow 1"], (1, 0, True, 0, 0)),
        ]:
            reading = reading_of(*lines)
            looked = ((READY,), ((0, 0, True, 0, 0),), ())
            self.goes(reading, reading.first(), ("part", 0), looked, ("look 0",))
            self.goes(reading, looked, ("part", 0), ((held(),), (hand,), ()), ("mark 0",))
        reading = reading_of("tries 3", "hold ever")
        marked = (((("held", 0, 1, 0, 0),)), ((1, 0, True, 0, 0),), ())
        self.goes(reading, looked, ("part", 0), marked, ("mark 0",))
        reading = reading_of("tries 3", "hold ever", "count fail")
        marked = (((("held", 0, 0, 0, 0),)), ((1, 0, True, 0, 0),), ())
        self.goes(reading, looked, ("part", 0), marked, ("mark 0",))

    def test_there_is_no_row_to_look_at(self):
        for late in [False, True]:
            reading = reading_of(rows=[("a", 0, "late")], late=late)
            self.goes(reading, reading.first(), ("part", 0), reading.first(), ("nothing",))

    def test_two_look_at_one_row(self):
        one, other, old = (0, 0, True, 0, 0), (1, 0, True, 0, 0), (0, 0, False, 0, 0)
        for lines, after, answer in [
            ([], ((held(),), ((), other), ()), ("stale",)),
            (["fence no"], ((held(),), (other, (1, 0, False, 0, 0)), ()), ("mark 0",)),
        ]:
            reading = reading_of(*lines, workers=2)
            state = reading.first()
            for w in (0, 1):
                state, told = reading.step(state, ("part", w))
                self.assertEqual(told, ("look 0",))
            self.assertEqual(state, ((READY,), (one, one), ()))
            marked = ((held(),), (old, other), ())
            self.goes(reading, state, ("part", 1), marked, ("mark 0",))
            self.goes(reading, marked, ("part", 0), after, answer)

    def test_a_mark_without_a_fence_wherever_the_row_is(self):
        reading = reading_of("fence no", "tries 3")
        others = [("done", 0, 1, 1, 0), ("dead", 0, 3, 1, 0), ("yet", 0, 0, 0, 0), ("ready", 0, 2, 0, 0)]
        for row in [READY, held(1), *others]:
            for fresh in [True, False]:
                state = ((row,), ((0, 0, fresh, 0, 0),), ())
                after = ("held", 2, min(row[2] + 1, 3), row[3], 0)
                self.goes(reading, state, ("part", 0), ((after,), ((1, 0, True, 0, 0),), ()), ("mark 0",))

    def test_a_mark_with_a_fence(self):
        reading = reading_of()
        for row in [READY, held(1), ("done", 0, 0, 1, 0), ("dead", 0, 0, 1, 0)]:
            state = ((row,), ((0, 0, False, 0, 0),), ())
            self.goes(reading, state, ("part", 0), ((row,), ((),), ()), ("stale",))

    def test_who_has_looked_stays_fresh_as_long_as_the_place_stays(self):
        look, stale = (0, 0, True, 0, 0), (0, 0, False, 0, 0)
        reading = reading_of("pause 2", "fence no", workers=2, may=("crash", "fail", "give", "more"))
        # These change no place.
        for deed in [("tick",), ("part", 1), ("crash", 1), ("fail", 1), ("give", 1), ("more", 1)]:
            for row in [READY, ("ready", 2, 0, 0, 0)]:
                state = ((row,), (look, ()), ())
                self.assertEqual(reading.step(state, deed)[0][1][0], look)
        state = ((held(),), (look, (1, 0, True, 0, 0)), ())
        self.assertEqual(reading.step(state, ("tick",))[0][1][0], look)
        self.assertEqual(reading.step(state, ("more", 1))[0][1][0], look)
        self.assertEqual(reading.step(state, ("part", 1))[0][1][0], look)
        # These do.
        for deed in [("fail", 1), ("give", 1)]:
            self.assertEqual(reading.step(state, deed)[0][1][0], stale)
        state = ((held(1),), (look, (2, 0, False, 0, 0)), ())
        self.assertEqual(reading.step(state, ("tick",))[0][1][0], stale)
        self.assertEqual(reading.step(state, ("part", 1))[0][1][0], stale)
        linked = reading_of("hold link", workers=2, may=("crash",))
        state = ((held(0),), (look, (1, 0, True, 0, 0)), ())
        self.assertEqual(linked.step(state, ("crash", 1))[0], ((READY,), (stale, ()), ()))

    def test_a_row_that_comes(self):
        look, stale = (0, 1, True, 0, 0), (0, 1, False, 0, 0)
        yet = ("yet", 0, 0, 0, 0)
        reading = reading_of(rows=[("a", 0, "here"), ("b", 0, "late")])
        state = ((READY, yet), (look,), ())
        self.goes(reading, state, ("put", 1), ((READY, READY), (stale,), ()), ("put 1",))
        reading = reading_of("plan take effect+follow finish", rows=[("a", 0, "here"), ("b", 0, 0)], workers=2)
        state = ((held(), yet), (look, (1, 0, True, 0, 0)), ())
        after = ((held(2, 1), READY), (stale, (2, 0, True, 0, 0)), ())
        self.goes(reading, state, ("part", 1), after, ("effect 0", "follow 1"))

    def test_other_rows_do_not_matter(self):
        reading = reading_of(rows=TWO, workers=2)
        looks = ((0, 0, True, 0, 0), (0, 1, True, 0, 0))
        state = ((READY, READY), looks, ())
        after = ((READY, held()), (looks[0], (1, 1, True, 0, 0)), ())
        self.goes(reading, state, ("part", 1), after, ("mark 1",))

    def test_accidents_of_a_worker_that_has_looked(self):
        may = ("crash", "fail", "give", "more")
        for lines in [[], ["hold link"], ["fence no"]]:
            for fresh in [True, False]:
                reading = reading_of(*lines, may=may, workers=2)
                state = ((READY,), ((0, 0, fresh, 0, 0), ()), ())
                for word in ["fail", "give", "more"]:
                    self.goes(reading, state, (word, 0), state, ("none",))
                self.goes(reading, state, ("crash", 0), ((READY,), ((), ()), ()), ())
                self.goes(reading, state, ("slow", 0), state, ())
                alone = reading_of(*lines, workers=2)
                for word in ["fail", "give", "more"]:
                    self.goes(alone, state, (word, 0), state, ("none",))
                self.goes(alone, state, ("crash", 0), state, ())
        # No row falls back, also if it is held by link.
        reading = reading_of("hold link", may=may)
        state = ((held(0),), ((0, 0, True, 0, 0),), ())
        self.goes(reading, state, ("crash", 0), ((held(0),), ((),), ()), ())

    def test_a_copy(self):
        reading = reading_of("pause 1", rows=TWO, late=True)
        rows = (held(), ("ready", 1, 0, 0, 0))
        for words in [("free", "free"), ("was", "dead"), ("away", "busy")]:
            self.goes(reading, (rows, ((),), words), ("copy",), (rows, ((),), ("busy", "busy")), ())
        rows = (("dead", 0, 0, 0, 0), ("done", 0, 0, 0, 0))
        self.goes(reading, (rows, ((),), ("free", "was")), ("copy",), (rows, ((),), ("dead", "away")), ())
        reading = reading_of()
        self.goes(reading, reading.first(), ("copy",), reading.first(), ("none",))

    def test_what_was_free(self):
        reading = reading_of("pause 1", late=True, workers=2, may=("give",))
        state = reading.first()
        told = []
        deeds = [("part", 0)] * 2 + [("tick",)] * 3 + [("part", 1)] * 2 + [("copy",), ("part", 1)]
        for deed in deeds:
            state, answer = reading.step(state, deed)
            told.append((answer, state[2]))
        was, free = ("was",), ("free",)
        # It stays so also when the row is free again, until the next copy.
        wanted = [(("look 0",), free), (("mark 0",), was), ((), was), ((), was), ((), was)]
        wanted += [(("look 0",), was), (("stale",), was), ((), free), (("look 0",), free)]
        self.assertEqual(told, wanted)
        self.assertEqual(state[1][1], (0, 0, True, 0, 0))

    def test_a_worker_looks_by_the_words_of_the_copy(self):
        rows = [("a", 1, "here"), ("a", 2, "here"), ("b", 3, "here")]
        for lines, words, r in [
            ([], ("busy", "free", "free"), 1),
            ([], ("away", "was", "free"), 1),
            ([], ("away", "dead", "busy"), None),
            (["order weight"], ("free", "was", "was"), 2),
            (["order weight"], ("free", "was", "busy"), 1),
            (["order key"], ("busy", "free", "free"), 2),
            (["order key"], ("was", "free", "free"), 0),
            (["order key"], ("dead", "free", "free"), 1),
            (["order key", "dead closes"], ("dead", "free", "free"), 2),
            (["order key", "dead closes"], ("dead", "was", "busy"), None),
            (["skip no"], ("busy", "free", "free"), None),
            (["skip no"], ("away", "was", "free"), 1),
        ]:
            reading = reading_of(*lines, rows=rows, late=True)
            state, answer = reading.step(((READY,) * 3, ((),), words), ("part", 0))
            self.assertEqual(answer, ("nothing",) if r is None else (f"look {r}",))
            if r is not None:
                self.assertEqual(state, ((READY,) * 3, ((0, r, words[r] != "was", 0, 0),), words))
            # Without copies it looks at the table.
            self.assertEqual(
                reading_of(*lines, rows=rows).step(((READY,) * 3, ((),), ()), ("part", 0))[1],
                ("look 2",) if "order weight" in lines else ("look 0",),
            )


class SecondMachine(Case):
    def compare(self, reading, looker, state, deed):
        found = reading.step(state, deed)
        self.assertEqual(found, looker.step(state, deed), (reading.scene.setting, reading.scene.rows(), state, deed))
        return found

    def test_each_deed_in_each_reached_state(self):
        answers = set()
        for reading, looker, search in small_readings(102, 250):
            self.assertEqual(reading.first(), looker.start())
            for state in search.states():
                for deed in looker.all_deeds():
                    answers.update(word.split(" ")[0] for word in self.compare(reading, looker, state, deed)[1])
        self.assertLess({"look", "mark", "nothing", "stale", "late", "none", "again", "follow", "dead"}, answers)

    def test_weavings(self):
        chance = random.Random(103)
        was = 0
        for _ in range(800):
            reading, looker = reading_by_lot(chance)
            state = reading.first()
            for deed in deeds_by_lot(chance, reading.deeds(), 50):
                state, _ = self.compare(reading, looker, state, deed)
                was += "was" in state[2]
                self.assertTrue(self.is_like_a_state(reading, state))
        self.assertGreater(was, 3000)

    def is_like_a_state(self, reading, state):
        """Rows and workers are as in [41], but for those that have looked, who are fresh on free rows only."""
        rows, hands, words = state
        for hand in hands:
            if hand and hand[0] == 0 and hand[2] and (rows[hand[1]][0] != "ready" or rows[hand[1]][1] > 0):
                return False
        plain = tuple(() if hand and hand[0] == 0 else hand for hand in hands)
        return is_state(reading.scene, (rows, plain)) and all(word in WORDS for word in words)

    def test_states_that_need_not_be_reached(self):
        chance = random.Random(104)
        for _ in range(1500):
            reading, looker = reading_by_lot(chance)
            rows, hands = state_by_lot(chance, looker)
            mixed = []
            for hand in hands:
                looked = (0, chance.randrange(len(rows)), chance.random() < 0.5, 0, 0)
                mixed.append(chance.choice([hand, looked]))
            words = tuple(chance.choice(WORDS) for _ in rows) if looker.late else ()
            for deed in looker.all_deeds():
                self.compare(reading, looker, (rows, tuple(mixed), words), deed)

    def test_with_no_one_between_it_is_as_a_take(self):
        """A look and a mark at once lead to the state behind a take."""
        chance = random.Random(105)
        for _ in range(300):
            reading, looker = reading_by_lot(chance)
            state, plain = reading.first(), reading.first()[:2]
            for deed in deeds_by_lot(chance, reading.scene.deeds(), 30):
                idle = deed[0] == "part" and state[1][deed[1]] == ()
                if looker.late:
                    state, _ = reading.step(state, ("copy",))
                state, answer = reading.step(state, deed)
                if idle and answer != ("nothing",):
                    state, answer = reading.step(state, deed)
                plain, wanted = super(Looker, looker).step(plain, deed)
                self.assertEqual(state[:2], plain)
                self.assertEqual(tuple(word.replace("mark", "take") for word in answer), wanted)


class Check(Case):
    def test_beside_a_search(self):
        told = {(promise, word): 0 for promise in PROMISES for word in ("holds", "breaks")}
        for reading, looker, search in small_readings(106, 250) + small_readings(107, 40, 600, reading_of_a_key):
            states = search.states()
            for promise in PROMISES:
                bad = [at for at, state in enumerate(states) if is_bad_there(looker, promise, state)]
                wanted, met = ("holds", sorted(states)), len(states)
                if bad:
                    wanted, met = ("breaks", search.weavings[states[bad[0]]]), bad[0] + 1
                told[promise, wanted[0]] += 1
                self.assertEqual(check(reading, promise), wanted, (reading.scene.setting, promise))
                self.assertEqual(check(reading, promise, most=met), wanted)
                self.assertEqual(check(reading, promise, most=met + 1), wanted)
                if met > 1:
                    self.too_many(met - 1, check, reading, promise)
                    self.too_many(1, check, reading, promise)
        self.assertGreater(min(told.values()), 10, told)

    def test_a_worker_that_has_looked_is_not_able(self):
        for plan in ["take effect finish", "take effect+finish", "take finish effect"]:
            for late in [False, True]:
                reading = reading_of("hold ever", f"plan {plan}", workers=3, late=late)
                self.assertEqual(check(reading, "two", most=2000)[0], "holds")
        # Without a fence two may mark the row, and are able only then.
        weaving = [("part", 0), ("part", 1), ("part", 0), ("part", 1)]
        reading = reading_of("hold ever", "fence no", "plan take effect+finish", workers=2)
        self.assertEqual(check(reading, "two"), ("breaks", weaving))
        # A worker that has looked at a done row does not come to its effect.
        reading = reading_of("hold ever", "fence no", "plan take finish effect", workers=2, may=("crash",))
        weaving = [("part", 0), ("part", 0), ("part", 0), ("crash", 0)]
        self.assertEqual(check(reading, "gone"), ("breaks", weaving))

    def test_most_is_1000_if_it_is_left_out(self):
        for late in [False, True]:
            reading = reading_of("once 5", "pause 2", workers=2, late=late)
            self.refuses(TooMany, [1000], check, reading, "gone")
        reading = reading_of("once 3", workers=2)
        many = len(check(reading, "gone", most=2000)[1])
        self.too_many(many - 1, check, reading, "gone")
        self.assertEqual(len(check(reading, "gone", most=many)[1]), many)

    def test_answers_are_the_callers(self):
        for lines, promise in [(["fence no"], "two"), (["hold ever"], "two")]:
            reading = reading_of(*lines, workers=2, late=True)
            first = check(reading, promise)
            before = copy.deepcopy(first)
            first[1].clear()
            self.assertEqual(check(reading, promise), before)

    def test_the_scene_stays(self):
        scene = scene_of(workers=2)
        reading = Reading(scene, True)
        before = [scene.deeds(), scene.rows()]
        check(reading, "two")
        reading.deeds().append("more")
        self.assertEqual([scene.deeds(), scene.rows()], before)
        self.assertTrue(scene == scene_of(workers=2))


def is_bad_there(looker, promise, state):
    """[60], with a worker that has looked as one that is not able."""
    return is_bad(looker, promise, state[:2])


class Fenced(unittest.TestCase):
    """[13]."""

    def test_an_old_copy_breaks_nothing_behind_a_fence(self):
        chance = random.Random(13)
        told = {promise: 0 for promise in PROMISES}
        tried = 0
        while tried < 150:
            lines = [line for line in lines_by_lot(chance) if not line.startswith(("fence", "order"))]
            order = chance.choice(["key", "key", "oldest", "weight"])
            may = tuple(word for word in ACCIDENTS if chance.random() < 0.3)
            rows, workers = rows_by_lot(chance, 2), chance.randint(1, 2)
            scene = Scene(Setting([*lines, f"order {order}"]), rows, workers=workers, may=may)
            promises = PROMISES if order == "key" else ["twice", "two", "gone"]
            for promise in promises:
                try:
                    plain = check(Reading(scene, False), promise, most=2000)[0]
                    if "holds" not in (plain, check_scene(scene, promise, most=2000)[0]):
                        continue
                    word = check(Reading(scene, True), promise, most=2000)[0]
                except TooMany:
                    continue
                tried += 1
                told[promise] += 1
                self.assertEqual(word, "holds", (scene.setting, rows, workers, may, promise))
        self.assertGreater(min(told.values()), 15, told)

    def test_without_a_fence_it_may(self):
        scene = scene_of("fence no", "hold ever", "plan take effect+finish")
        self.assertEqual(check(Reading(scene, False), "twice")[0], "holds")
        self.assertEqual(check(Reading(scene, True), "twice")[0], "breaks")


if __name__ == "__main__":
    unittest.main()
