"""[41] to [44]: states, deeds and their answers, sentence by sentence."""

import copy
import inspect
import unittest

from rowqueue.machine import able, chosen, moments, play, start, step
from rowqueue.scenes import Scene
from rowqueue.settings import Setting
from tests.samples import PLANS

ONE = [("a", 0, "here")]
TWO = [("a", 0, "here"), ("b", 0, "here")]
FRESH = (1, 0, True, 0, 0)
LOOSE = (1, 0, False, 0, 0)
ALL = ("crash", "fail", "give", "more")


def scene_of(*lines, rows=ONE, workers=2, may=ALL, prompt=False):
    return Scene(Setting(list(lines)), list(rows), workers=workers, may=may, prompt=prompt)


def row(place, ticks=0, tries=0, effects=0, memory=0):
    return (place, ticks, tries, effects, memory)


class Case(unittest.TestCase):
    def goes(self, scene, state, deed, after, answer):
        """The deed leads to the state after, and answers so; the arguments stay, and it does so again."""
        before = copy.deepcopy(state)
        for _ in range(2):
            found = step(scene, state, deed)
            self.assertEqual(found, (after, answer))
            self.assertIs(type(found), tuple)
            self.assertIs(type(found[1]), tuple)
        self.assertEqual(state, before)

    def stays(self, scene, state, deed, answer):
        self.goes(scene, state, deed, state, answer)


class Start(Case):
    def test_first_states(self):
        rows = [("a", 0, "here"), ("b", 0, "late"), ("c", 0, 0)]
        state = start(scene_of(rows=rows, workers=3))
        self.assertEqual(state, ((row("ready"), row("yet"), row("yet")), ((), (), ())))
        self.assertEqual(start(scene_of("hold 4", "pause 3", "once 6", workers=1)), ((row("ready"),), ((),)))


class Tick(Case):
    def test_ready_rows(self):
        scene = scene_of("pause 1 3", rows=TWO)
        state = ((row("ready", 3), row("ready", 0)), ((), ()))
        self.goes(scene, state, ("tick",), ((row("ready", 2), row("ready", 0)), ((), ())), ())
        state = ((row("ready", 1), row("ready", 2)), ((), ()))
        self.goes(scene, state, ("tick",), ((row("ready", 0), row("ready", 1)), ((), ())), ())

    def test_other_places(self):
        for place in ["yet", "done", "dead"]:
            self.stays(scene_of(), ((row(place),), ((), ())), ("tick",), ())

    def test_held_rows(self):
        scene = scene_of("hold 3")
        self.goes(scene, ((row("held", 3),), (FRESH, ())), ("tick",), ((row("held", 2),), (FRESH, ())), ())
        self.goes(scene, ((row("held", 1),), (FRESH, ())), ("tick",), ((row("ready", 0),), (LOOSE, ())), ())

    def test_holds_without_a_number(self):
        for hold in ["hold ever", "hold link"]:
            self.stays(scene_of(hold), ((row("held"),), (FRESH, ())), ("tick",), ())

    def test_the_pause_does_not_tick_at_once(self):
        scene = scene_of("pause 2")
        self.goes(scene, ((row("held", 1),), (FRESH, ())), ("tick",), ((row("ready", 2),), (LOOSE, ())), ())

    def test_rows_that_die_are_told_in_order(self):
        scene = scene_of("tries 2", rows=TWO + [("c", 0, "here"), ("d", 0, "here")], workers=1)
        rows = (row("held", 1, 2), row("held", 1, 1), row("held", 2, 2), row("held", 1, 2))
        after = (row("dead", 0, 2), row("ready", 0, 1), row("held", 1, 2), row("dead", 0, 2))
        self.goes(scene, (rows, ((),)), ("tick",), (after, ((),)), ("dead 0", "dead 3"))

    def test_memories(self):
        scene = scene_of("once 3", rows=TWO + [("c", 0, "here"), ("d", 0, "here")])
        rows = (row("done", 0, 0, 1, 3), row("yet", 0, 0, 1, 1), row("dead", 0, 0, 2, 2), row("ready", 0, 0, 1, 0))
        after = (row("done", 0, 0, 1, 2), row("yet", 0, 0, 1, 0), row("dead", 0, 0, 2, 1), row("ready", 0, 0, 1, 0))
        self.goes(scene, (rows, ((), ())), ("tick",), (after, ((), ())), ())

    def test_own_and_lag(self):
        scene = scene_of("hold 4", "slow 2", "plan take check effect finish", workers=3)
        hands = ((1, 0, True, 3, 2), (1, 0, False, 1, 2), ())
        after = ((1, 0, True, 2, 2), (1, 0, False, 0, 0), ())
        self.goes(scene, ((row("held", 4),), hands), ("tick",), ((row("held", 3),), after), ())
        self.goes(
            scene,
            ((row("held", 2),), ((1, 0, True, 0, 0), (1, 0, False, 2, 1), ())),
            ("tick",),
            ((row("held", 1),), ((1, 0, True, 0, 0), (1, 0, False, 1, 1), ())),
            (),
        )

    def test_prompt_scenes_wait_for_an_idle_worker_and_a_row(self):
        scene = scene_of("pause 1 3", rows=TWO, prompt=True)
        self.stays(scene, ((row("ready"), row("held", 1)), ((), (1, 1, True, 0, 0))), ("tick",), ())
        # The take would take none: time goes on.
        for first in [row("held", 2), row("done"), row("dead"), row("yet"), row("ready", 1)]:
            ticks = max(first[1] - 1, 0)
            state = ((first, row("done")), ((), ()))
            self.goes(scene, state, ("tick",), ((first[:1] + (ticks,) + first[2:], row("done")), ((), ())), ())
        # There is a row, but no worker is idle.
        hands = ((1, 1, True, 0, 0), (1, 0, True, 0, 0))
        rows = [("a", 0, "here"), ("b", 0, "here"), ("c", 0, "here")]
        state = ((row("held", 2), row("held", 2), row("ready")), hands)
        after = ((row("held", 1), row("held", 1), row("ready")), hands)
        self.goes(scene_of(rows=rows, prompt=True), state, ("tick",), after, ())

    def test_prompt_scenes_go_by_what_a_take_would_take(self):
        rows = [("a", 0, "here"), ("a", 0, "here")]
        state = ((row("held", 2), row("ready")), ((), FRESH))
        after = ((row("held", 1), row("ready")), ((), FRESH))
        self.goes(scene_of("order key", rows=rows, prompt=True), state, ("tick",), after, ())
        self.goes(scene_of("skip no", rows=rows, prompt=True), state, ("tick",), after, ())
        self.stays(scene_of(rows=rows, prompt=True), state, ("tick",), ())

    def test_prompt_scenes_wait_for_a_worker_that_is_not_fresh(self):
        scene = scene_of("plan take finish effect", "once 2", prompt=True)
        for first in [row("ready"), row("held", 1), row("done", 0, 0, 1, 2), row("dead"), row("yet")]:
            self.stays(scene, ((first,), (LOOSE, LOOSE)), ("tick",), ())
        # Also if it has finished the row itself.
        self.stays(scene, ((row("done"),), ((2, 0, False, 0, 0), ())), ("tick",), ())
        self.goes(scene, ((row("held", 2),), (FRESH, ())), ("tick",), ((row("held", 1),), (FRESH, ())), ())

    def test_a_prompt_scene_holds_up_nothing_but_ticks(self):
        scene = scene_of(prompt=True)
        after = ((row("held", 2),), (FRESH, ()))
        self.goes(scene, start(scene), ("part", 0), after, ("take 0",))


class Falling(Case):
    def fall(self, lines, tries, after, answer=()):
        """A row whose hold ends falls back, whatever it has had besides."""
        state = ((row("held", 1, tries, 2),), (FRESH, ()))
        wanted = ((after[:3] + (2, 0),), (LOOSE, ()))
        self.goes(scene_of(*lines), state, ("tick",), wanted, answer)

    def test_tries_and_counts(self):
        for count in ["count take", "count fail"]:
            for tries in range(1, 5):
                for had in range(tries + 1):
                    lines = [f"tries {tries}", count, "pause 1 3"]
                    if had == tries:
                        self.fall(lines, had, row("dead", 0, had), ("dead 0",))
                    else:
                        self.fall(lines, had, row("ready", 3 if had >= 2 else 1, had))

    def test_tries_for_ever(self):
        for had in range(3):
            self.fall(["pause 1 3"], had, row("ready", 3 if had == 2 else 1, had))
            self.fall(["pause 0 2"], had, row("ready", 2 if had == 2 else 0, had))
        self.fall(["pause 3"], 0, row("ready", 3))
        self.fall([], 0, row("ready", 0))

    def test_one_pause(self):
        for had in range(4):
            self.fall(["tries 4", "pause 2"], had, row("ready", 2, had))

    def test_no_one_is_fresh(self):
        scene = scene_of("hold 1", rows=TWO, workers=3)
        hands = ((1, 1, True, 0, 0), LOOSE, FRESH)
        state = ((row("held", 1), row("held", 1)), hands)
        after = ((row("ready"), row("ready")), ((1, 1, False, 0, 0), LOOSE, LOOSE))
        self.goes(scene, state, ("tick",), after, ())

    def test_own_and_lag_stay(self):
        scene = scene_of("hold 4", "slow 2", "fence no", "plan take follow check effect finish")
        state = ((row("held", 2),), (LOOSE, (2, 0, True, 3, 1)))
        after = ((row("ready"),), ((), (2, 0, False, 3, 1)))
        self.goes(scene, state, ("give", 0), after, ("give 0",))
        self.goes(scene, state, ("fail", 0), after, ("fail 0",))

    def test_other_rows_stay(self):
        scene = scene_of("hold 2", rows=TWO)
        state = ((row("held", 1), row("held", 2)), ((1, 0, True, 0, 0), (1, 1, True, 0, 0)))
        after = ((row("ready"), row("held", 1)), ((1, 0, False, 0, 0), (1, 1, True, 0, 0)))
        self.goes(scene, state, ("tick",), after, ())


class Takes(Case):
    def test_holds(self):
        for hold, ticks in [("1", 1), ("2", 2), ("4", 4), ("ever", 0), ("link", 0)]:
            scene = scene_of(f"hold {hold}")
            after = ((row("held", ticks),), ((), FRESH))
            self.goes(scene, start(scene), ("part", 1), after, ("take 0",))

    def test_attempts(self):
        for lines, had, has in [
            (["tries 2"], 0, 1),
            (["tries 2"], 1, 2),
            (["tries 2"], 2, 2),
            (["tries 1"], 1, 1),
            (["tries 2", "count fail"], 1, 1),
            (["tries ever"], 0, 0),
            (["pause 1 2"], 0, 1),
            (["pause 0 0"], 1, 2),
            (["pause 1 2"], 2, 2),
            (["pause 1 2", "count fail"], 1, 1),
            (["tries 4", "pause 1 2"], 3, 4),
            (["tries 1", "pause 1 2"], 1, 1),
        ]:
            state = ((row("ready", 0, had, 1),), ((), ()))
            self.goes(scene_of(*lines), state, ("part", 0), ((row("held", 2, has, 1),), (FRESH, ())), ("take 0",))

    def test_nothing_to_take(self):
        scene = scene_of("pause 3")
        for first in [row("yet"), row("ready", 1), row("held", 2), row("done"), row("dead")]:
            self.stays(scene, ((first,), ((), ())), ("part", 0), ("nothing",))

    def test_the_row_that_is_chosen(self):
        rows = [("a", 1, "here"), ("a", 3, "here"), ("b", 2, "late")]
        state = ((row("ready"), row("ready"), row("ready")), ((), ()))
        for lines, r in [([], 0), (["order weight"], 1), (["order key"], 0)]:
            self.assertEqual(step(scene_of(*lines, rows=rows), state, ("part", 0))[1], (f"take {r}",))
        state = ((row("held", 1), row("ready"), row("ready")), ((), ()))
        for lines, r in [([], 1), (["order weight"], 1), (["order key"], 2)]:
            self.assertEqual(step(scene_of(*lines, rows=rows), state, ("part", 0))[1], (f"take {r}",))
        self.assertEqual(step(scene_of("skip no", rows=rows), state, ("part", 0))[1], ("nothing",))

    def test_own_and_lag(self):
        for lines, own, lag in [
            (["hold 3"], 3, 0),
            (["hold 3", "slow 2"], 3, 2),
            (["hold 3", "margin 1", "slow 1"], 2, 1),
            (["hold 3", "margin 3", "slow 1"], 0, 0),
            (["hold 1", "margin 3", "slow 2"], 0, 0),
            (["hold ever", "slow 2"], 0, 0),
            (["hold link", "slow 2", "margin 1"], 0, 0),
        ]:
            for plan in ["take check effect finish", "take effect finish check", "take effect+finish+check"]:
                scene = scene_of(f"plan {plan}", *lines)
                state, answer = step(scene, start(scene), ("part", 0))
                self.assertEqual((state[1][0], answer), ((1, 0, True, own, lag), ("take 0",)))
            scene = scene_of(*lines)
            self.assertEqual(step(scene, start(scene), ("part", 0))[0][1][0], FRESH)


class Transactions(Case):
    def test_to_the_end(self):
        scene = scene_of("plan take effect follow check finish", "hold 3")
        hands = [(point, 0, True, 3 if point < 4 else 0, 0) for point in range(1, 5)]
        state = ((row("held", 3),), (hands[0], ()))
        self.goes(scene, state, ("part", 0), ((row("held", 3, 0, 1),), (hands[1], ())), ("effect 0",))
        state = ((row("held", 3, 0, 1),), (hands[1], ()))
        self.goes(scene, state, ("part", 0), ((row("held", 3, 0, 1),), (hands[2], ())), ("follow",))
        state = ((row("held", 3, 0, 1),), (hands[2], ()))
        self.goes(scene, state, ("part", 0), ((row("held", 3, 0, 1),), (hands[3], ())), ())
        state = ((row("held", 3, 0, 1),), (hands[3], ()))
        self.goes(scene, state, ("part", 0), ((row("done", 0, 0, 1),), ((), ())), ("finish 0",))

    def test_each_order_of_the_words(self):
        told = {"check": (), "effect": ("effect 0",), "finish": ("finish 0",), "follow": ("follow 1", "follow 3")}
        rows = [("a", 0, "here"), ("b", 0, 0), ("c", 0, 1), ("d", 0, 0)]
        for plan in PLANS:
            scene = scene_of(f"plan {plan}", rows=rows)
            state, answer = step(scene, start(scene), ("part", 0))
            for part in plan.split(" ")[1:]:
                state, answer = step(scene, state, ("part", 0))
                self.assertEqual(answer, sum([told[word] for word in part.split("+")], ()))
            there = "ready" if "follow" in plan else "yet"
            wanted = (row("done", 0, 0, 1), row(there), row("yet"), row(there))
            self.assertEqual(state, (wanted, ((), ())))

    def test_all_of_it_or_nothing(self):
        rows = [("a", 0, "here"), ("b", 0, 0)]
        held = (row("held", 2), row("yet"))
        for plan in ["effect+follow+check+finish", "check+finish+effect+follow", "follow+effect+finish+check"]:
            scene = scene_of(f"plan take {plan}", "once 2", rows=rows)
            first = "late" if plan.index("check") < plan.index("finish") else "stale"
            for hand, answer in [
                ((1, 0, True, 0, 0), "late"),
                ((1, 0, False, 2, 0), "stale"),
                ((1, 0, False, 0, 0), first),
            ]:
                self.goes(scene, (held, (hand, ())), ("part", 0), (held, ((), ())), (answer,))

    def test_check(self):
        scene = scene_of("plan take check effect finish", "slow 1", "hold 3")
        state = ((row("held", 3),), ((1, 0, True, 1, 1), ()))
        self.goes(scene, state, ("part", 0), ((row("held", 3),), ((2, 0, True, 0, 0), ())), ())
        state = ((row("held", 3),), ((1, 0, True, 1, 0), ()))
        self.goes(scene, state, ("part", 0), ((row("held", 3),), ((2, 0, True, 0, 0), ())), ())
        state = ((row("held", 3),), ((1, 0, True, 0, 0), ()))
        self.goes(scene, state, ("part", 0), ((row("held", 3),), ((), ())), ("late",))
        for hold in range(1, 5):
            state = ((row("held", hold),), ((1, 0, True, 0, 0), ()))
            scene = scene_of("plan take check effect finish", f"hold {hold}", "slow 1")
            self.goes(scene, state, ("part", 0), ((row("held", hold),), ((), ())), ("late",))
        # Whether the worker is fresh does not matter for a check.
        state = ((row("done"),), ((1, 0, False, 1, 0), ()))
        self.goes(scene, state, ("part", 0), ((row("done"),), ((2, 0, False, 0, 0), ())), ())
        for hold in ["hold ever", "hold link"]:
            scene = scene_of("plan take check effect finish", hold)
            state = ((row("held"),), ((1, 0, False, 0, 0), ()))
            self.goes(scene, state, ("part", 0), ((row("held"),), ((2, 0, False, 0, 0), ())), ())

    def test_own_stays_until_the_check_is_done(self):
        scene = scene_of("plan take effect check finish", "slow 1", "hold 3")
        state = ((row("held", 3),), ((1, 0, True, 2, 1), ()))
        self.goes(scene, state, ("part", 0), ((row("held", 3, 0, 1),), ((2, 0, True, 2, 1), ())), ("effect 0",))

    def test_effects(self):
        after = (2, 0, False, 0, 0)
        for line, effects, memory, wanted, answer in [
            ("once no", 0, 0, (1, 0), "effect 0"),
            ("once no", 1, 0, (2, 0), "effect 0"),
            ("once no", 2, 0, (2, 0), "effect 0"),
            ("once 4", 0, 0, (1, 4), "effect 0"),
            ("once 4", 1, 0, (2, 4), "effect 0"),
            ("once 4", 1, 1, (1, 1), "again 0"),
            ("once 4", 0, 4, (0, 4), "again 0"),
            ("once ever", 0, 0, (1, 0), "effect 0"),
            ("once ever", 1, 0, (1, 0), "again 0"),
            ("once ever", 2, 0, (2, 0), "again 0"),
        ]:
            for place in ["yet", "ready", "held", "done", "dead"]:
                ticks = 1 if place == "held" else 0
                state = ((row(place, ticks, 0, effects, memory),), (LOOSE, ()))
                wanted_state = ((row(place, ticks, 0, *wanted),), (after, ()))
                self.goes(scene_of(line), state, ("part", 0), wanted_state, (answer,))

    def test_finish_with_fence(self):
        scene = scene_of("plan take finish effect")
        state = ((row("held", 2, 0, 1),), (FRESH, LOOSE))
        after = ((row("done", 0, 0, 1),), ((2, 0, False, 0, 0), LOOSE))
        self.goes(scene, state, ("part", 0), after, ("finish 0",))
        state = ((row("held", 2),), (LOOSE, FRESH))
        self.goes(scene, state, ("part", 0), ((row("held", 2),), ((), FRESH)), ("stale",))

    def test_finish_without_fence(self):
        scene = scene_of("plan take finish effect", "fence no", "pause 2")
        after = (2, 0, False, 0, 0)
        for first in [row("yet"), row("ready", 2), row("held", 2), row("done"), row("dead")]:
            state = ((first,), (LOOSE, ()))
            self.goes(scene, state, ("part", 0), ((row("done"),), (after, ())), ("finish 0",))
        state = ((row("held", 2),), (LOOSE, FRESH))
        self.goes(scene, state, ("part", 0), ((row("done"),), (after, LOOSE)), ("finish 0",))

    def test_follow(self):
        rows = [("a", 0, "here"), ("b", 0, 0), ("c", 0, 1), ("d", 0, 0)]
        scene = scene_of("plan take follow effect finish", rows=rows, workers=1)
        state = ((row("held", 2), row("yet"), row("yet"), row("done")), (FRESH,))
        after = ((row("held", 2), row("ready"), row("yet"), row("done")), ((2, 0, True, 0, 0),))
        self.goes(scene, state, ("part", 0), after, ("follow 1",))
        state = ((row("held", 2), row("dead"), row("yet"), row("done")), (FRESH,))
        self.goes(scene, state, ("part", 0), (state[0], ((2, 0, True, 0, 0),)), ("follow",))
        # A row that comes again keeps what it has had.
        scene = scene_of("plan take follow effect finish", "tries 2", "once 3", rows=rows, workers=1)
        state = ((row("held", 2), row("yet", 0, 1, 2, 3), row("yet"), row("yet")), (FRESH,))
        after = ((row("held", 2), row("ready", 0, 1, 2, 3), row("yet"), row("ready")), ((2, 0, True, 0, 0),))
        self.goes(scene, state, ("part", 0), after, ("follow 1", "follow 3"))

    def test_the_last_transaction(self):
        for plan in ["take finish effect", "take effect finish", "take effect+finish", "take finish effect check"]:
            scene = scene_of(f"plan {plan}", "fence no", "hold ever")
            last = len(plan.split(" ")) - 1
            state = ((row("held"),), ((last, 0, True, 0, 0), ()))
            self.assertEqual(step(scene, state, ("part", 0))[0][1], ((), ()))


class Fails(Case):
    def test_none(self):
        held = (row("held", 2),)
        for word in ["fail", "give", "more"]:
            others = tuple(other for other in ALL if other != word)
            self.stays(scene_of(may=others), (held, (FRESH, ())), (word, 0), ("none",))
            self.stays(scene_of(may=()), (held, (LOOSE, ())), (word, 0), ("none",))
            self.stays(scene_of(), (held, (FRESH, ())), (word, 1), ("none",))
            # Its finish is behind it.
            scene = scene_of("plan take finish effect")
            self.stays(scene, ((row("done"),), ((2, 0, False, 0, 0), ())), (word, 0), ("none",))
            self.stays(scene_of("plan take finish effect", may=()), (held, (FRESH, ())), (word, 0), ("none",))
        for hold in ["hold ever", "hold link"]:
            self.stays(scene_of(hold), ((row("held"),), (FRESH, ())), ("more", 0), ("none",))
            self.stays(scene_of(hold, "fence no"), ((row("ready"),), (LOOSE, ())), ("more", 0), ("none",))

    def test_finish_is_the_next_one(self):
        scene = scene_of("plan take effect finish")
        state = ((row("held", 2),), ((2, 0, True, 0, 0), ()))
        self.goes(scene, state, ("fail", 0), ((row("ready"),), ((), ())), ("fail 0",))

    def test_stale(self):
        for word in ["fail", "give", "more"]:
            for first in [row("held", 1), row("ready"), row("done"), row("dead")]:
                state = ((first,), (LOOSE, ()))
                self.goes(scene_of(), state, (word, 0), ((first,), ((), ())), ("stale",))
            state = ((row("held", 1),), (LOOSE, FRESH))
            self.goes(scene_of(), state, (word, 0), ((row("held", 1),), ((), FRESH)), ("stale",))

    def test_fail(self):
        for lines, had, after, answer in [
            ([], 0, row("ready"), ("fail 0",)),
            (["pause 3"], 0, row("ready", 3), ("fail 0",)),
            (["tries 2"], 1, row("ready", 0, 1), ("fail 0",)),
            (["tries 2"], 2, row("dead", 0, 2), ("fail 0", "dead 0")),
            (["tries 2", "count fail"], 0, row("ready", 0, 1), ("fail 0",)),
            (["tries 2", "count fail"], 1, row("dead", 0, 2), ("fail 0", "dead 0")),
            (["tries 1", "count fail"], 0, row("dead", 0, 1), ("fail 0", "dead 0")),
            (["pause 1 3", "count fail"], 0, row("ready", 1, 1), ("fail 0",)),
            (["pause 1 3", "count fail"], 1, row("ready", 3, 2), ("fail 0",)),
            (["pause 1 3", "count take"], 1, row("ready", 1, 1), ("fail 0",)),
            (["pause 1 3", "count take"], 2, row("ready", 3, 2), ("fail 0",)),
        ]:
            state = ((row("held", 2, had),), (FRESH, LOOSE))
            self.goes(scene_of(*lines), state, ("fail", 0), ((after,), ((), LOOSE)), answer)

    def test_fail_without_fence(self):
        scene = scene_of("fence no", "count fail", "tries 2")
        for first in [row("ready"), row("done", 0, 1), row("dead", 0, 2), row("yet")]:
            self.goes(scene, ((first,), (LOOSE, ())), ("fail", 0), ((first,), ((), ())), ("fail 0",))
        state = ((row("held", 2, 1),), (LOOSE, FRESH))
        self.goes(scene, state, ("fail", 0), ((row("dead", 0, 2),), ((), LOOSE)), ("fail 0", "dead 0"))

    def test_give(self):
        scene = scene_of("pause 2", "tries 2")
        state = ((row("held", 1, 2),), (FRESH, LOOSE))
        self.goes(scene, state, ("give", 0), ((row("ready", 0, 2),), ((), LOOSE)), ("give 0",))

    def test_give_without_fence(self):
        scene = scene_of("fence no", "pause 2")
        for first in [row("ready", 2), row("done"), row("dead"), row("yet")]:
            self.goes(scene, ((first,), (LOOSE, ())), ("give", 0), ((first,), ((), ())), ("give 0",))
        state = ((row("held", 1),), (LOOSE, FRESH))
        self.goes(scene, state, ("give", 0), ((row("ready"),), ((), LOOSE)), ("give 0",))

    def test_more(self):
        scene = scene_of("hold 4")
        state = ((row("held", 1),), (FRESH, LOOSE))
        self.goes(scene, state, ("more", 0), ((row("held", 4),), (FRESH, LOOSE)), ("more 0",))

    def test_more_and_the_check(self):
        lines = ["hold 4", "margin 1", "slow 2", "plan take effect check finish"]
        state = ((row("held", 1, 0, 1),), ((2, 0, True, 0, 0), ()))
        after = ((row("held", 4, 0, 1),), ((2, 0, True, 3, 2), ()))
        self.goes(scene_of(*lines), state, ("more", 0), after, ("more 0",))
        state = ((row("held", 1, 0, 1),), ((1, 0, True, 4, 1), ()))
        after = ((row("held", 4, 0, 1),), ((1, 0, True, 3, 2), ()))
        self.goes(scene_of(*lines), state, ("more", 0), after, ("more 0",))
        # With the check behind it, or nothing left of the hold, there is nothing to trust.
        state = ((row("held", 1),), ((3, 0, True, 0, 0), ()))
        self.goes(scene_of(*lines), state, ("more", 0), ((row("held", 4),), ((3, 0, True, 0, 0), ())), ("more 0",))
        scene = scene_of("hold 2", "margin 2", "slow 1", "plan take check effect finish")
        state = ((row("held", 1),), (FRESH, ()))
        self.goes(scene, state, ("more", 0), ((row("held", 2),), (FRESH, ())), ("more 0",))

    def test_more_without_fence(self):
        scene = scene_of("fence no", "hold 3", "plan take check effect finish")
        for first in [row("ready"), row("done"), row("dead"), row("yet")]:
            self.goes(scene, ((first,), (LOOSE, ())), ("more", 0), ((first,), ((), ())), ("stale",))
        state = ((row("held", 1),), (LOOSE, FRESH))
        after = ((row("held", 3),), ((1, 0, False, 3, 0), FRESH))
        self.goes(scene, state, ("more", 0), after, ("more 0",))


class Others(Case):
    def test_slow(self):
        scene = scene_of("hold 4", "slow 2", "plan take check effect finish")
        state = ((row("held", 4),), ((1, 0, True, 3, 2), (1, 0, False, 1, 1)))
        after = ((row("held", 4),), ((1, 0, True, 4, 1), (1, 0, False, 1, 1)))
        self.goes(scene, state, ("slow", 0), after, ())
        after = ((row("held", 4),), ((1, 0, True, 3, 2), (1, 0, False, 2, 0)))
        self.goes(scene, state, ("slow", 1), after, ())
        for hand in [(), (1, 0, True, 3, 0), (1, 0, True, 0, 0), (2, 0, True, 0, 0)]:
            self.stays(scene, ((row("held", 4),), (hand, ())), ("slow", 0), ())

    def test_slow_that_the_scene_does_not_have(self):
        for lines in [[], ["hold ever", "slow 1"], ["slow 1"], ["plan take check effect finish"]]:
            scene = scene_of(*lines)
            state = step(scene, start(scene), ("part", 0))[0]
            self.assertNotIn(("slow", 0), scene.deeds())
            self.stays(scene, state, ("slow", 0), ())
            self.stays(scene, state, ("slow", 1), ())

    def test_crash(self):
        for hold, ticks in [("hold 2", 2), ("hold ever", 0)]:
            state = ((row("held", ticks),), (FRESH, LOOSE))
            after = ((row("held", ticks),), ((), LOOSE))
            self.goes(scene_of(hold), state, ("crash", 0), after, ())
        for hold in ["hold 2", "hold ever", "hold link"]:
            self.stays(scene_of(hold), start(scene_of(hold)), ("crash", 0), ())
        state = ((row("held", 2),), (FRESH, ()))
        self.stays(scene_of(may=("fail", "give", "more")), state, ("crash", 0), ())

    def test_crash_of_a_link(self):
        scene = scene_of("hold link", "pause 1", "tries 2")
        state = ((row("held", 0, 1),), (FRESH, LOOSE))
        self.goes(scene, state, ("crash", 0), ((row("ready", 1, 1),), ((), LOOSE)), ())
        self.goes(scene, state, ("crash", 1), ((row("held", 0, 1),), (FRESH, ())), ())
        state = ((row("held", 0, 2),), (FRESH, LOOSE))
        self.goes(scene, state, ("crash", 0), ((row("dead", 0, 2),), ((), LOOSE)), ("dead 0",))
        # It is no fail: with the count of fails there is no attempt more.
        scene = scene_of("hold link", "count fail", "tries 1")
        state = ((row("held"),), (FRESH, ()))
        self.goes(scene, state, ("crash", 0), ((row("ready"),), ((), ())), ())
        self.stays(scene_of("hold link", may=()), state, ("crash", 0), ())

    def test_put(self):
        rows = [("a", 0, "here"), ("b", 0, "late"), ("c", 0, 0)]
        scene = scene_of("tries 2", "once 3", rows=rows, workers=1)
        state = ((row("yet"), row("yet", 0, 1, 2, 3), row("yet")), ((),))
        after = ((row("yet"), row("ready", 0, 1, 2, 3), row("yet")), ((),))
        self.goes(scene, state, ("put", 1), after, ("put 1",))
        for r in [0, 2]:
            self.stays(scene, state, ("put", r), ("none",))
        for other in [row("ready"), row("held", 1), row("done"), row("dead")]:
            self.stays(scene, ((row("yet"), other, row("yet")), ((),)), ("put", 1), ("none",))


class Questions(Case):
    def test_chosen(self):
        rows = [("a", 1, "here"), ("a", 3, "here"), ("b", 2, "late")]
        words = {"f": row("ready"), "p": row("ready", 1), "h": row("held", 1), "d": row("dead")}
        words |= {"y": row("yet"), "x": row("done")}
        for lines, text, wanted in [
            ([], "fff", 0),
            ([], "pff", 1),
            ([], "hhf", 2),
            ([], "dyx", None),
            (["order weight"], "fff", 1),
            (["order weight"], "fhf", 2),
            (["order key"], "hff", 2),
            (["order key"], "pfp", None),
            (["order key"], "dfp", 1),
            (["order key", "dead closes"], "dff", 2),
            (["order key", "dead closes"], "xff", 1),
            (["skip no"], "hff", None),
            (["skip no"], "xdf", 2),
        ]:
            scene = scene_of("pause 1", *lines, rows=rows, workers=1)
            state = (tuple(words[sign] for sign in text), ((),))
            self.assertEqual(chosen(scene, state), wanted)
            # It does not matter whether a worker is idle.
            self.assertEqual(chosen(scene, (state[0], ((1, 0, False, 0, 0),))), wanted)

    def able(self, lines, hand, first=row("held", 1)):
        return able(scene_of(*lines), ((first,), ((), hand)), 1)

    def test_able(self):
        plain = ["plan take effect finish"]
        self.assertIs(self.able(plain, ()), False)
        self.assertIs(self.able(plain, FRESH), True)
        self.assertIs(self.able(plain, LOOSE), True)
        self.assertIs(self.able(plain, LOOSE, row("done")), True)
        self.assertIs(self.able(plain, (2, 0, True, 0, 0)), False)

    def test_able_and_checks(self):
        checked = ["plan take check effect finish"]
        self.assertIs(self.able(checked, (1, 0, False, 1, 0)), True)
        self.assertIs(self.able(checked, (1, 0, True, 0, 0)), False)
        self.assertIs(self.able(checked, (2, 0, True, 0, 0)), True)
        self.assertIs(self.able(checked + ["hold ever"], FRESH, row("held")), True)
        self.assertIs(self.able(["plan take check+effect finish"], FRESH), False)
        # In the transaction of the effect, also behind it; but not in a later one.
        self.assertIs(self.able(["plan take effect+check finish"], FRESH), False)
        self.assertIs(self.able(["plan take effect check finish"], FRESH), True)

    def test_able_and_finishes(self):
        for plan in ["take finish effect", "take finish+effect", "take effect+finish", "take finish follow effect"]:
            self.assertIs(self.able([f"plan {plan}"], FRESH), True)
            self.assertIs(self.able([f"plan {plan}"], LOOSE), False)
            self.assertIs(self.able([f"plan {plan}", "fence no"], LOOSE), True)
        # The finish is behind it: nothing asks any more whether it is fresh.
        self.assertIs(self.able(["plan take finish effect"], (2, 0, False, 0, 0)), True)
        self.assertIs(self.able(["plan take effect finish"], LOOSE), True)

    def test_able_looks_at_its_own_worker(self):
        scene = scene_of("plan take effect+finish")
        state = ((row("held", 1),), (FRESH, LOOSE))
        self.assertEqual([able(scene, state, 0), able(scene, state, 1)], [True, False])


class Weavings(Case):
    WEAVING = [("part", 0), ("part", 0), ("tick",), ("tick",), ("part", 1), ("part", 0), ("part", 1)]

    def test_moments_and_play(self):
        scene = scene_of()
        state, found = start(scene), []
        for deed in self.WEAVING:
            state, answer = step(scene, state, deed)
            found.append((state, answer))
        self.assertEqual(list(moments(scene, self.WEAVING)), found)
        self.assertEqual(play(scene, self.WEAVING), (state, [answer for _, answer in found]))
        self.assertIs(type(play(scene, self.WEAVING)), tuple)
        self.assertIs(type(play(scene, self.WEAVING)[1]), list)

    def test_no_deeds(self):
        scene = scene_of()
        self.assertEqual(list(moments(scene, [])), [])
        self.assertEqual(play(scene, []), (start(scene), []))

    def test_moments_is_a_generator(self):
        self.assertTrue(inspect.isgeneratorfunction(moments))
        going = moments(scene_of(), self.WEAVING)
        self.assertTrue(inspect.isgenerator(going))
        self.assertEqual(next(going), (((row("held", 2),), (FRESH, ())), ("take 0",)))

    def test_arguments_stay(self):
        weaving = list(self.WEAVING)
        play(scene_of(), weaving)
        list(moments(scene_of(), weaving))
        self.assertEqual(weaving, self.WEAVING)
        # The caller's list may change while it goes through the moments.
        found = []
        for moment in moments(scene_of(), weaving):
            weaving.clear()
            found.append(moment)
        self.assertEqual(found, list(moments(scene_of(), self.WEAVING)))

    def test_answers_are_the_callers(self):
        scene = scene_of()
        first = play(scene, self.WEAVING)[1]
        first.clear()
        self.assertEqual(len(play(scene, self.WEAVING)[1]), len(self.WEAVING))


if __name__ == "__main__":
    unittest.main()
