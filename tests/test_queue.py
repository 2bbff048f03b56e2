"""[50] to [53], and [5] for a queue: sentence by sentence, beside a second queue, and beside the machine."""

import copy
import random
import unittest

from rowqueue.errors import Known, NoOrigin, NoRow, Past, QueueError, Stale, TooMany
from rowqueue.machine import start, step
from rowqueue.queue import Queue
from rowqueue.scenes import Scene
from rowqueue.settings import Setting
from tests.ledger import Ledger, Refused
from tests.samples import ACCIDENTS, deeds_by_lot, lines_by_lot, rows_by_lot
from tests.table import Shop
from tests.table import Stale as ShopStale

LETTERS = "abcdefghijklmnopqrstuvwxyz"
NAMES = [first + second for first in LETTERS for second in LETTERS]
GREAT = 10**18
OTHERS = [None, True, False, 0, 1, 10**50, "", "b", "A", b"a", [], ["a"], ("a",), {}, {"a": 1}, {"a"}, object()]


def queue_of(*lines):
    return Queue(Setting(list(lines)))


def put(name, key="k", weight=0, due=0, origin=None):
    return ("put", name, key, weight, due, origin)


def filled(*lines, names="abc", now=0):
    """A queue with rows of these names, each with a key of its own."""
    queue = queue_of(*lines)
    queue.do(now, [put(name, name) for name in names])
    return queue


def seen(queue):
    """All that a queue answers to questions."""
    names = queue.names()
    rows = [queue.row(name) for name in names]
    frees = [queue.free(many) for many in range(1, 9)]
    return [queue.time(), names, rows, frees, queue.next_time(), len(queue), [name in queue for name in NAMES]]


class Case(unittest.TestCase):
    def refuse(self, queue, now, deeds, wanted, thing):
        """The transaction raises this error, changes no row, and the time becomes now, if it is not behind."""
        before = seen(queue)
        given = copy.deepcopy(deeds)
        with self.assertRaises(wanted) as caught:
            queue.do(now, deeds)
        self.assertIs(type(caught.exception), wanted)
        self.assertIsInstance(caught.exception, QueueError)
        self.assertEqual(list(vars(caught.exception).values()), [thing])
        self.assertEqual(deeds, given)
        if queue.time() == before[0]:
            self.assertEqual(seen(queue), before)


class Queues(Case):
    def test_a_new_queue(self):
        queue = queue_of()
        self.assertEqual([len(queue), queue.time(), queue.names(), queue.free(8)], [0, 0, [], []])
        self.assertIs(queue.next_time(), None)
        self.assertIs("a" in queue, False)

    def test_len_and_in(self):
        queue = filled(names="ab")
        queue.do(0, [put("abcdefgh", origin="a")])
        self.assertEqual(len(queue), 3)
        for name in ["a", "b", "abcdefgh"]:
            self.assertIs(name in queue, True)
        queue.do(5, [("take", 1), ("finish", "a", 1)])
        self.assertEqual(len(queue), 3)
        self.assertIs("a" in queue, True)
        for thing in [*OTHERS, "c", "abcdefg", ("a", "k"), 3, {"a": "b"}, Setting(), queue, (("a",) * 3,) * 4]:
            if thing != "b":
                self.assertIs(thing in queue, False)

    def test_equal_only_to_itself(self):
        queue, other = queue_of(), queue_of()
        self.assertTrue(queue == queue)
        self.assertFalse(queue != queue)
        for thing in [other, queue.copied(), Setting(), None, *OTHERS]:
            self.assertFalse(queue == thing)
            self.assertTrue(queue != thing)

    def test_plan_margin_and_slow_do_not_matter(self):
        chance = random.Random(1)
        for _ in range(30):
            lines = [line for line in lines_by_lot(chance) if line.split(" ")[0] not in ("plan", "margin", "slow")]
            more = ["plan take finish+check follow effect", "margin 3", "slow 2"]
            queues = [queue_of(*lines), queue_of(*lines, *more)]
            for now, deeds in transactions_by_lot(chance, 30):
                results = [result_of(queue, now, deeds) for queue in queues]
                self.assertEqual(results[0], results[1])
            self.assertEqual(seen(queues[0]), seen(queues[1]))

    def test_the_setting_stays(self):
        setting = Setting(["hold 3", "order key"])
        queue = Queue(setting)
        queue.do(4, [put("a"), ("take", 1)])
        self.assertEqual(setting, Setting(["hold 3", "order key"]))


class Times(Case):
    def test_the_time(self):
        queue = filled()
        for now in [0, 3, 3, 10, GREAT, GREAT]:
            queue.do(now, [put(NAMES[len(queue)])])
            self.assertEqual(queue.time(), now)

    def test_past_is_ahead_of_all_else(self):
        queue = filled(now=10)
        for deeds in [[("take", 1)], [("finish", "x", 1)], [put("a")], [("finish", "a", 0)]]:
            for now in [9, 0]:
                self.refuse(queue, now, deeds, Past, now)
            self.assertEqual(queue.time(), 10)
        self.refuse(queue, 10, [put("a")], Known, "a")

    def test_the_time_becomes_now_if_a_deed_raises_an_error(self):
        queue = filled("hold 3", "tries 1")
        queue.do(0, [("take", 1)])
        before = [queue.row("b"), queue.row("c")]
        self.refuse(queue, 7, [("take", 8), ("effect", "b"), ("finish", "c", 1), ("finish", "a", 1)], Stale, "a")
        self.assertEqual(queue.time(), 7)
        # The hold has ended, but no deed was done.
        self.assertEqual(queue.row("a"), ("dead", None, 1, 1, 0))
        self.assertEqual([queue.row("b"), queue.row("c")], before)
        self.refuse(queue, 6, [("take", 1)], Past, 6)

    def test_holds_end_at_their_own_time(self):
        for now, row in [
            (12, ("held", 13, 1, 1, 0)),
            (13, ("ready", 15, 1, 1, 0)),
            (14, ("ready", 15, 1, 1, 0)),
            (15, ("ready", 15, 1, 1, 0)),
            (1000, ("ready", 15, 1, 1, 0)),
            (GREAT, ("ready", 15, 1, 1, 0)),
        ]:
            queue = filled("hold 3", "pause 2", names="a", now=10)
            queue.do(10, [("take", 1)])
            free = queue.do(now, [("effect", "a")]) and queue.free(8)
            self.assertEqual(queue.row("a"), row[:4] + (1,))
            self.assertEqual(free, ["a"] if now >= 15 else [])

    def test_many_holds_in_one_step(self):
        queue = filled("hold 2", "pause 1 3", "tries 4", names="abcd")
        queue.do(1, [("take", 1)])
        queue.do(2, [("take", 1)])
        queue.do(5, [("take", 2)])
        wanted = [("held", 7, 2), ("held", 7, 2), ("ready", 0, 0), ("ready", 0, 0)]
        self.assertEqual([queue.row(name)[:3] for name in "abcd"], wanted)
        queue.do(100, [put("e", due=300)])
        self.assertEqual([queue.row(name)[:3] for name in "ab"], [("ready", 10, 2), ("ready", 10, 2)])
        self.assertEqual(queue.free(8), ["a", "b", "c", "d"])

    def test_great_times(self):
        queue = filled("hold 4", "pause 3", "tries 2", names="a", now=GREAT - 4)
        queue.do(GREAT - 4, [("take", 1)])
        self.assertEqual(queue.row("a"), ("held", GREAT, 1, 1, 0))
        queue.do(GREAT - 1, [("effect", "a")])
        self.assertEqual(queue.next_time(), GREAT)
        queue.do(GREAT, [("effect", "a")])
        self.assertEqual(queue.row("a"), ("ready", GREAT + 3, 1, 1, 2))
        self.assertEqual(queue.next_time(), GREAT + 3)
        queue = filled("hold 4", names="a", now=GREAT)
        self.assertEqual(queue.do(GREAT, [("take", 1), ("more", "a", 1)]), [[("a", 1)], GREAT + 4])
        queue.do(GREAT, [put("b", due=GREAT)])
        self.assertEqual(queue.free(1), ["b"])


class Put(Case):
    def test_due(self):
        for due, time in [(0, 20), (19, 20), (20, 20), (21, 21), (GREAT, GREAT)]:
            queue = queue_of()
            self.assertEqual(queue.do(20, [put("a", due=due)]), [None])
            self.assertEqual(queue.row("a"), ("ready", time, 0, 0, 0))
            self.assertEqual(queue.free(1), ["a"] if due <= 20 else [])
        self.assertEqual(queue.next_time(), GREAT)

    def test_origin(self):
        queue = filled(names="a")
        for due in [0, 99]:
            name = NAMES[due]
            self.assertEqual(queue.do(3, [put(name, due=due, origin="a")]), [None])
            self.assertEqual(queue.row(name), ("yet", None, 0, 0, 0))
        queue.do(3, [("take", 1), ("finish", "a", 1), put("b", origin="a")])
        self.assertEqual(queue.row("b"), ("yet", None, 0, 0, 0))
        self.assertEqual(queue.do(4, [("take", 8)]), [[]])
        self.refuse(queue, 4, [put("x", origin="y")], NoOrigin, "y")
        self.refuse(queue, 4, [put("x", origin="x")], NoOrigin, "x")
        self.assertEqual(queue.do(4, [put("y"), put("x", origin="y")]), [None, None])

    def test_errors_in_their_order(self):
        queue = filled(names="a")
        self.refuse(queue, 0, [put("a", origin="x")], Known, "a")
        self.refuse(queue, 0, [put("b"), put("b")], Known, "b")
        for at, name in enumerate(NAMES[:199]):
            self.refuse(queue, at, [put("b", origin="x")], NoOrigin, "x")
            queue.do(at, [put(name)])
        self.assertEqual(len(queue), 200)
        self.refuse(queue, 500, [put("a", origin="x")], Known, "a")
        self.refuse(queue, 500, [put("b", origin="x")], TooMany, 200)
        self.refuse(queue, 500, [put("b", origin="a")], TooMany, 200)
        self.refuse(queue, 500, [put("b")], TooMany, 200)
        queue.do(500, [("take", 1), ("finish", "a", 1)])
        self.refuse(queue, 500, [put("b")], TooMany, 200)

    def test_the_order_of_the_rows(self):
        queue = queue_of()
        queue.do(0, [put("c"), put("a"), put("b")])
        self.assertEqual(queue.names(), ["c", "a", "b"])
        self.assertEqual(queue.free(8), ["c", "a", "b"])
        queue.do(0, [("take", 1), ("give", "c", 1)])
        self.assertEqual(queue.names(), ["c", "a", "b"])
        self.assertEqual(queue.free(8), ["c", "a", "b"])


class Take(Case):
    def test_one_to_eight(self):
        for many in range(1, 9):
            queue = filled(names="abcdefghij")
            wanted = [(name, 1) for name in "abcdefghij"[:many]]
            self.assertEqual(queue.free(many), list("abcdefghij"[:many]))
            self.assertEqual(queue.do(4, [("take", many)]), [wanted])
            for name, _ in wanted:
                self.assertEqual(queue.row(name), ("held", 6, 1, 1, 0))
            self.assertEqual(len(queue.free(8)), min(10 - many, 8))

    def test_holds(self):
        for hold, time in [("1", 5), ("4", 8), ("ever", None), ("link", None)]:
            queue = filled(f"hold {hold}", names="a")
            queue.do(4, [("take", 1)])
            self.assertEqual(queue.row("a"), ("held", time, 1, 1, 0))
            queue.do(4000, [("take", 1)])
            self.assertEqual(queue.row("a")[0], "held")
            self.assertEqual(queue.row("a")[3], 2 if time else 1)

    def test_attempts_and_tokens(self):
        for count, attempts in [("take", 5), ("fail", 0)]:
            queue = filled(f"count {count}", names="a")
            for now in range(0, 50, 10):
                self.assertEqual(queue.do(now, [("take", 3)]), [[("a", now // 10 + 1)]])
            self.assertEqual(queue.row("a"), ("held", 42, attempts, 5, 0))

    def test_weights_keys_and_skip(self):
        deeds = [put("a", "k", 1), put("b", "k", 9), put("c", "m", 5), put("d", "n", 9, 50)]
        for lines, wanted in [
            ([], "abc"),
            (["order weight"], "bca"),
            (["order weight", "skip no"], "b"),
            (["order key"], "ac"),
            (["order key", "skip no"], "a"),
            (["skip no"], "abc"),
        ]:
            queue = queue_of(*lines)
            queue.do(0, deeds)
            self.assertEqual(queue.free(8), list(wanted))
            self.assertEqual(queue.do(0, [("take", 8)]), [[(name, 1) for name in wanted]])
        self.assertEqual(queue_of().do(3, [("take", 8)]), [[]])

    def test_a_take_behind_a_take(self):
        queue = filled()
        found = queue.do(3, [("take", 2), ("take", 2), ("take", 2), ("give", "b", 1), ("take", 1)])
        self.assertEqual(found, [[("a", 1), ("b", 1)], [("c", 1)], [], None, [("b", 2)]])

    def test_dead_rows_of_a_key(self):
        for dead, wanted in [("opens", ["b"]), ("closes", [])]:
            queue = queue_of("order key", "tries 1", f"dead {dead}")
            queue.do(0, [put("a"), put("b"), ("take", 8), ("fail", "a", 1)])
            self.assertEqual(queue.row("a")[0], "dead")
            self.assertEqual(queue.free(8), wanted)


class Words(Case):
    """finish, fail, give, more and lost, of a row in each place."""

    def row_at(self, place, *lines):
        """A queue at the time 10. Its row a is at this place, with two takes, if it can be taken at all."""
        queue = queue_of("pause 3", *lines)
        queue.do(0, [put("o", due=GREAT), put("a", origin="o" if place == "yet" else None)])
        queue.do(10, [("effect", "o")])
        if place != "yet":
            queue.do(10, [("take", 1), ("give", "a", 1), ("take", 1)])
        if place in ("ready", "waiting", "done"):
            queue.do(10, [{"ready": ("give", "a", 2), "waiting": ("fail", "a", 2), "done": ("finish", "a", 2)}[place]])
        self.assertEqual(queue.row("a")[0], "ready" if place == "waiting" else place)
        return queue

    def dead_row(self, *lines):
        queue = queue_of("tries 1", "count take", *lines)
        queue.do(10, [put("a"), ("take", 1), ("fail", "a", 1)])
        self.assertEqual(queue.row("a"), ("dead", None, 1, 1, 0))
        return queue

    def queues(self, *lines):
        """A queue for each place, in which the row is not held, and its last token."""
        taken = [(self.row_at(place, *lines), 2) for place in ["ready", "waiting", "done"]]
        return [(self.row_at("yet", *lines), 0), *taken, (self.dead_row(*lines), 1)]

    def test_no_row_is_ahead_of_all_else(self):
        for lines in [["fence no"], ["hold ever"], ["hold link", "fence no"], []]:
            queue = filled(*lines, names="a")
            for word in ["finish", "fail", "give", "more", "lost"]:
                self.refuse(queue, 3, [(word, "x", 1)], NoRow, "x")
            for word in ["effect", "follow"]:
                self.refuse(queue, 3, [(word, "x")], NoRow, "x")

    def test_a_fence_refuses_all_but_the_last_token_of_a_held_row(self):
        for word in ["finish", "fail", "give", "more"]:
            held = self.row_at("held")
            for token in [0, 1, 3, GREAT]:
                self.refuse(held, 10, [(word, "a", token)], Stale, "a")
            held.do(11, [(word, "a", 2)])
            for queue, last in self.queues():
                for token in [0, 1, 2, 3]:
                    self.refuse(queue, 10, [(word, "a", token)], Stale, "a")
                self.assertEqual(queue.row("a")[3], last)

    def test_a_hold_that_has_ended_is_fenced(self):
        for word in ["finish", "fail", "give", "more"]:
            for now in [12, 50]:
                queue = self.row_at("held")
                self.refuse(queue, now, [(word, "a", 2)], Stale, "a")
                self.assertEqual(queue.row("a"), ("ready", 15, 2, 2, 0))

    def test_finish(self):
        for token in [0, 1, 2, 3]:
            for queue, last in self.queues("fence no") + [(self.row_at("held", "fence no"), 2)]:
                attempts = queue.row("a")[2]
                self.assertEqual(queue.do(11, [("finish", "a", token)]), [None])
                self.assertEqual(queue.row("a"), ("done", None, attempts, last, 0))
        queue = self.row_at("held")
        self.assertEqual(queue.do(11, [("finish", "a", 2), ("take", 1)]), [None, []])
        self.assertEqual(queue.row("a"), ("done", None, 2, 2, 0))

    def test_fail(self):
        queue = self.row_at("held")
        self.assertEqual(queue.do(11, [("fail", "a", 2)]), [False])
        self.assertEqual(queue.row("a"), ("ready", 14, 2, 2, 0))
        for token in [0, 1, 2, 3]:
            queue = self.row_at("held", "fence no")
            self.assertEqual(queue.do(11, [("fail", "a", token)]), [False])
            self.assertEqual(queue.row("a"), ("ready", 14, 2, 2, 0))
            for queue, _ in self.queues("fence no"):
                before = queue.row("a")
                self.assertEqual(queue.do(11, [("fail", "a", token)]), [False])
                self.assertEqual(queue.row("a"), before)

    def test_fails_are_counted(self):
        queue = filled("count fail", "tries 2", "pause 1 3", names="a")
        self.assertEqual(queue.do(0, [("take", 1), ("give", "a", 1), ("take", 1), ("fail", "a", 2)])[3], False)
        self.assertEqual(queue.row("a"), ("ready", 1, 1, 2, 0))
        self.assertEqual(queue.do(1, [("take", 1), ("fail", "a", 3)])[1], True)
        self.assertEqual(queue.row("a"), ("dead", None, 2, 3, 0))
        queue = filled("count fail", "pause 1 3", names="a")
        for now, time in [(0, 1), (10, 13), (20, 23)]:
            queue.do(now, [("take", 1), ("fail", "a", queue.row("a")[3] + 1)])
            self.assertEqual(queue.row("a")[1], time)
        # The end of a hold is no attempt.
        queue.do(30, [("take", 1)])
        queue.do(40, [("effect", "a")])
        self.assertEqual(queue.row("a"), ("ready", 35, 3, 4, 1))

    def test_pauses_and_tries(self):
        queue = filled("pause 1 3", "tries 3", "hold 1", names="a")
        for now, row in [(0, ("ready", 2, 1)), (10, ("ready", 14, 2)), (20, ("dead", None, 3))]:
            queue.do(now, [("take", 1)])
            queue.do(now + 5, [("effect", "a")])
            self.assertEqual(queue.row("a")[:3], row)
        # There may be more attempts than tries, if a row was given back.
        queue = filled("tries 1", names="a")
        deeds = [("take", 1), ("give", "a", 1), ("take", 1), ("give", "a", 2), ("take", 1), ("fail", "a", 3)]
        found = queue.do(0, deeds)
        self.assertEqual([found[5], queue.row("a")], [True, ("dead", None, 3, 3, 0)])

    def test_give(self):
        queue = self.row_at("held")
        self.assertEqual(queue.do(11, [("give", "a", 2)]), [None])
        self.assertEqual(queue.row("a"), ("ready", 11, 2, 2, 0))
        self.assertEqual(queue.free(1), ["a"])
        for token in [0, 1, 2, 3]:
            queue = self.row_at("held", "fence no")
            self.assertEqual(queue.do(11, [("give", "a", token)]), [None])
            self.assertEqual(queue.row("a"), ("ready", 11, 2, 2, 0))
            for queue, _ in self.queues("fence no"):
                before = queue.row("a")
                self.assertEqual(queue.do(11, [("give", "a", token)]), [None])
                self.assertEqual(queue.row("a"), before)

    def test_more(self):
        queue = self.row_at("held")
        self.assertEqual(queue.do(11, [("more", "a", 2), ("more", "a", 2)]), [13, 13])
        self.assertEqual(queue.row("a"), ("held", 13, 2, 2, 0))
        for token in [0, 1, 2, 3]:
            queue = self.row_at("held", "fence no")
            self.assertEqual(queue.do(11, [("more", "a", token)]), [13])
            self.assertEqual(queue.row("a"), ("held", 13, 2, 2, 0))
            for queue, _ in self.queues("fence no"):
                self.refuse(queue, 11, [("more", "a", token)], Stale, "a")

    def test_more_of_a_hold_that_is_no_number(self):
        for hold in ["ever", "link"]:
            for fence in ["yes", "no"]:
                held = self.row_at("held", f"hold {hold}", f"fence {fence}")
                for queue, _ in self.queues(f"hold {hold}", f"fence {fence}") + [(held, 2)]:
                    before = queue.row("a")
                    for token in [0, 1, 2, 3]:
                        self.assertEqual(queue.do(11, [("more", "a", token)]), [None])
                    self.assertEqual(queue.row("a"), before)

    def test_lost(self):
        for fence in ["yes", "no"]:
            for token in [0, 1, 3]:
                queue = self.row_at("held", "hold link", f"fence {fence}")
                before = queue.row("a")
                self.assertEqual(queue.do(11, [("lost", "a", token)]), [False])
                self.assertEqual(queue.row("a"), before)
            self.assertEqual(queue.do(12, [("lost", "a", 2), ("lost", "a", 2)]), [False, False])
            self.assertEqual(queue.row("a"), ("ready", 15, 2, 2, 0))
            for queue, last in self.queues("hold link", f"fence {fence}"):
                before = queue.row("a")
                self.assertEqual(queue.do(12, [("lost", "a", last)]), [False])
                self.assertEqual(queue.row("a"), before)
            for hold in ["2", "ever"]:
                queue = self.row_at("held", f"hold {hold}", f"fence {fence}")
                before = queue.row("a")
                self.assertEqual(queue.do(11, [("lost", "a", 2)]), [False])
                self.assertEqual(queue.row("a"), before)

    def test_lost_and_dead(self):
        queue = filled("hold link", "tries 1", names="a")
        self.assertEqual(queue.do(3, [("take", 1), ("lost", "a", 1), ("lost", "a", 1)])[1:], [True, False])
        self.assertEqual(queue.row("a"), ("dead", None, 1, 1, 0))
        queue = filled("hold link", "tries 1", "count fail", names="a")
        self.assertEqual(queue.do(3, [("take", 1), ("lost", "a", 1)])[1], False)
        self.assertEqual(queue.row("a"), ("ready", 3, 0, 1, 0))


class Receiver(Case):
    def test_once_no(self):
        queue = filled(names="a")
        self.assertEqual(queue.do(0, [("effect", "a")] * 3), [True, True, True])
        self.assertEqual(queue.row("a"), ("ready", 0, 0, 0, 3))

    def test_once_ever(self):
        queue = filled("once ever", names="ab")
        self.assertEqual(queue.do(0, [("effect", "a"), ("effect", "a"), ("effect", "b")]), [True, False, True])
        self.assertEqual(queue.do(GREAT, [("effect", "a")]), [False])
        self.assertEqual(queue.row("a")[4], 1)

    def test_once_a_number(self):
        for once in range(1, 7):
            queue = filled(f"once {once}", names="ab")
            self.assertEqual(queue.do(10, [("effect", "a"), ("effect", "a")]), [True, False])
            self.assertEqual(queue.do(10 + once - 1, [("effect", "a"), ("effect", "b")]), [False, True])
            # What is remembered is the last effect, not the last try.
            self.assertEqual(queue.do(10 + once, [("effect", "a"), ("effect", "a")]), [True, False])
            self.assertEqual(queue.do(10 + 2 * once - 1, [("effect", "a")]), [False])
            self.assertEqual(queue.do(10 + 2 * once, [("effect", "a")]), [True])
            self.assertEqual(queue.row("a")[4], 3)
            self.assertEqual(queue.row("b")[4], 1)

    def test_in_each_place(self):
        queue = queue_of("tries 1")
        queue.do(0, [put("a"), put("b", origin="a"), ("take", 1)])
        self.assertEqual(queue.do(0, [("effect", "a"), ("effect", "b")]), [True, True])
        queue.do(9, [("effect", "a")])
        self.assertEqual(queue.row("a"), ("dead", None, 1, 1, 2))
        self.assertEqual(queue.row("b"), ("yet", None, 0, 0, 1))

    def test_follow(self):
        queue = queue_of()
        queue.do(0, [put("a"), put("d", origin="a"), put("b", origin="a"), put("c", origin="b"), put("e", due=50)])
        self.assertEqual(queue.do(7, [("follow", "e"), ("follow", "a"), ("follow", "a")]), [[], ["d", "b"], []])
        self.assertEqual([queue.row(name)[:2] for name in "dbc"], [("ready", 7), ("ready", 7), ("yet", None)])
        self.assertEqual(queue.free(8), ["a", "d", "b"])
        queue.do(8, [put("f", origin="a")])
        self.assertEqual(queue.do(9, [("take", 8), ("follow", "a")])[1], ["f"])
        self.assertEqual(queue.row("d")[:2], ("held", 11))


class Transactions(Case):
    def test_all_or_nothing(self):
        queue = filled("once 3", names="abc")
        queue.do(1, [put("d", origin="a")])
        deeds = [("take", 1), ("effect", "a"), ("follow", "a"), put("e"), ("take", 8)]
        deeds += [("more", "b", 1), ("give", "c", 1), ("fail", "b", 1), ("finish", "a", 1)]
        for bad, wanted, thing in [
            (("finish", "x", 1), NoRow, "x"),
            (("finish", "a", 1), Stale, "a"),
            (put("e"), Known, "e"),
            (put("f", origin="x"), NoOrigin, "x"),
        ]:
            self.refuse(queue, 1, deeds + [bad], wanted, thing)
            self.refuse(queue, 1, deeds + [bad] + deeds, wanted, thing)
        self.refuse(queue, 1, [("finish", "x", 1), ("finish", "y", 1), *deeds], NoRow, "x")
        self.assertEqual(queue.do(1, deeds)[2:5], [["d"], None, [("b", 1), ("c", 1), ("d", 1), ("e", 1)]])

    def test_twenty_deeds_and_two_hundred_rows(self):
        queue = queue_of("order weight", "hold 4", "tries 2")
        for at in range(10):
            names = NAMES[20 * at : 20 * at + 20]
            self.assertEqual(queue.do(at, [put(name, "k", int(name[1] > "m")) for name in names]), [None] * 20)
        self.assertEqual(len(queue), 200)
        heavy = [name for name in NAMES[:200] if name[1] > "m"]
        looked = heavy + [name for name in NAMES[:200] if name not in heavy]
        wanted = [[(name, 1) for name in looked[8 * k : 8 * k + 8]] for k in range(20)]
        self.assertEqual(queue.do(50, [("take", 8)] * 20), wanted)
        self.assertEqual(len([name for name in NAMES[:200] if queue.row(name)[0] == "held"]), 160)

    def test_lists_may_be_changed(self):
        queue = filled(names="ab")
        deeds = [("take", 2), ("follow", "a")]
        results = queue.do(3, deeds)
        deeds.clear()
        results[0].clear()
        results[1].append("x")
        results.clear()
        names, free = queue.names(), queue.free(8)
        names.clear()
        free.append("x")
        self.assertEqual([queue.names(), queue.free(8)], [["a", "b"], []])
        self.assertEqual(queue.do(3, [("give", "a", 1), ("take", 8)]), [None, [("a", 2)]])
        other = queue_of()
        first, second = other.do(0, [("take", 1), ("take", 1)])
        self.assertIsNot(first, second)


class Questions(Case):
    def test_no_row(self):
        queue = filled()
        for name in ["x", "ab", "abcdefgh"]:
            with self.assertRaises(NoRow) as caught:
                queue.row(name)
            self.assertEqual(caught.exception.name, name)

    def test_free(self):
        queue = filled("hold 2", names="abcd")
        queue.do(1, [("take", 1)])
        for many in range(1, 9):
            self.assertEqual(queue.free(many), list("bcd"[:many]))
        # The time is that of the queue: the hold ends when it is told of the time.
        self.assertEqual(queue.row("a"), ("held", 3, 1, 1, 0))

    def test_next_time(self):
        queue = queue_of("order key", "hold 3", "pause 2")
        queue.do(10, [put("a", "k", 0, 40), put("b", "k", 0, 30), put("c", "m", 0, 0)])
        # The row b is barred: this does not matter. The row c is free already.
        self.assertEqual(queue.next_time(), 30)
        queue.do(10, [("take", 1)])
        self.assertEqual(queue.next_time(), 13)
        queue.do(12, [("effect", "c")])
        self.assertEqual(queue.next_time(), 13)
        queue.do(13, [("effect", "c")])
        self.assertEqual(queue.next_time(), 15)
        queue.do(15, [("effect", "c")])
        self.assertEqual(queue.next_time(), 30)
        queue.do(30, [("effect", "c")])
        self.assertEqual(queue.next_time(), 40)
        queue.do(40, [("effect", "c")])
        self.assertIs(queue.next_time(), None)

    def test_next_time_of_other_places(self):
        for hold in ["ever", "link"]:
            queue = filled(f"hold {hold}", "pause 3", names="ab")
            queue.do(1, [("take", 2), put("c", origin="a")])
            self.assertIs(queue.next_time(), None)
            queue.do(1, [("fail", "b", 1)])
            self.assertEqual(queue.next_time(), 4)
            queue.do(1, [("finish", "a", 1)])
            self.assertEqual(queue.next_time(), 4)

    def test_questions_change_nothing(self):
        chance = random.Random(53)
        for _ in range(20):
            lines = lines_by_lot(chance)
            queues = [queue_of(*lines), queue_of(*lines)]
            for now, deeds in transactions_by_lot(chance, 20):
                self.assertEqual(seen(queues[0]), seen(queues[0]))
                self.assertEqual(result_of(queues[0], now, deeds), result_of(queues[1], now, deeds))
            self.assertEqual(seen(queues[0]), seen(queues[1]))

    def test_copies_go_on_by_themselves(self):
        chance = random.Random(54)
        for _ in range(40):
            lines = lines_by_lot(chance)
            queue, ledger = queue_of(*lines), Ledger(lines)
            first, second, third = [transactions_by_lot(chance, 12) for _ in range(3)]
            for now, deeds in first:
                self.assertEqual(result_of(queue, now, deeds), result_of(ledger, now, deeds))
            twin, other = queue.copied(), copy.deepcopy(ledger)
            self.assertIsInstance(twin, Queue)
            self.assertEqual(seen(twin), seen(queue))
            now = queue.time()
            for late, deeds in second:
                self.assertEqual(result_of(queue, now + late, deeds), result_of(ledger, now + late, deeds))
            self.compare(twin, other)
            for late, deeds in third:
                self.assertEqual(result_of(twin, now + late, deeds), result_of(other, now + late, deeds))
            self.compare(twin, other)
            self.compare(queue, ledger)

    def compare(self, queue, ledger):
        self.assertEqual([queue.row(name) for name in queue.names()], [ledger.row(row["name"]) for row in ledger.rows])


def result_of(queue, now, deeds):
    """The results of a transaction, or the error."""
    try:
        return queue.do(now, deeds)
    except Refused as refused:
        return refused.args
    except QueueError as error:
        return (type(error).__name__, *vars(error).values())


def transactions_by_lot(chance, many, names="abcdef"):
    now = 0
    found = []
    for _ in range(many):
        now += chance.choice([0, 0, 1, 1, 2, 3, 5]) - (chance.random() < 0.05)
        deeds = [deed_by_lot(chance, max(now, 0), names) for _ in range(chance.choice([1, 1, 1, 2, 3]))]
        found.append((max(now, 0), deeds))
    return found


def deed_by_lot(chance, now, names):
    word = chance.choice("put put take take take finish fail give more lost effect follow".split(" "))
    name = chance.choice(names)
    if word == "put":
        origin = chance.choice([None, None, None, *names])
        return ("put", name, chance.choice("kl"), chance.randrange(3), max(now + chance.randint(-2, 4), 0), origin)
    if word == "take":
        return ("take", chance.randint(1, 3))
    if word in ("effect", "follow"):
        return (word, name)
    return (word, name, chance.choice([0, 1, 1, 1, 2, 2, 3, 4]))


class SecondQueue(Case):
    def test_transactions(self):
        chance = random.Random(50)
        refused = 0
        for _ in range(700):
            lines = lines_by_lot(chance)
            queue, ledger = queue_of(*lines), Ledger(lines)
            for now, deeds in transactions_by_lot(chance, 40):
                found = result_of(queue, now, deeds)
                self.assertEqual(found, result_of(ledger, now, deeds), (lines, now, deeds))
                refused += isinstance(found, tuple)
                self.assertEqual(queue.time(), ledger.now)
                self.assertEqual(queue.next_time(), ledger.next_time())
                self.assertEqual([queue.row(name) for name in queue.names()], [ledger.row(n) for n in queue.names()])
                for many in (1, 2, 8):
                    self.assertEqual(queue.free(many), [row["name"] for row in ledger.taken(many)])
        self.assertGreater(refused, 3000)

    def test_one_great_step_and_small_ones(self):
        chance = random.Random(51)
        for _ in range(150):
            lines = lines_by_lot(chance)
            queue = queue_of(*lines)
            for now, deeds in transactions_by_lot(chance, 12):
                result_of(queue, now, deeds)
            if "a" not in queue:
                continue
            twin, now = queue.copied(), queue.time() + chance.choice([1, 2, 3, 10])
            queue.do(now, [("follow", "a")])
            for time in range(twin.time(), now):
                twin.do(time, [("lost", "a", 0)])
            twin.do(now, [("follow", "a")])
            self.assertEqual(seen(queue), seen(twin))

    def test_only_differences_of_times_matter(self):
        chance = random.Random(52)
        for _ in range(100):
            lines = lines_by_lot(chance)
            ahead = chance.choice([7, 10**9, GREAT - 1000])
            queues = [queue_of(*lines), queue_of(*lines)]
            for now, deeds in transactions_by_lot(chance, 30):
                moved = [deed[:4] + (deed[4] + ahead,) + deed[5:] if deed[0] == "put" else deed for deed in deeds]
                deeds = [deed for deed in deeds if deed[0] != "more"] or [("take", 1)]
                moved = [deed for deed in moved if deed[0] != "more"] or [("take", 1)]
                first, second = result_of(queues[0], now, deeds), result_of(queues[1], now + ahead, moved)
                if isinstance(first, tuple) and first[0] == "Past":
                    first = ("Past", now + ahead)
                self.assertEqual(first, second)
            for name in queues[0].names():
                first, second = queues[0].row(name), queues[1].row(name)
                self.assertEqual(first[:1] + first[2:], second[:1] + second[2:])
                self.assertEqual(first[1], None if second[1] is None else second[1] - ahead)


class QueueTable:
    """A queue, told of by the words of the second table, for the workers of its shop."""

    def __init__(self, lines, line):
        self.queue = Queue(Setting(lines))
        self.line = line
        self.now = 0
        self.rows = []

    def number(self, word):
        return int(self.line[word]) if self.line[word].isdigit() else None

    def do(self, *deed):
        try:
            return self.queue.do(self.now, [deed])[0]
        except Stale:
            raise ShopStale() from None

    def put(self, r, key, weight, origin):
        self.rows.append({"r": r})
        self.do("put", LETTERS[r], key, weight, 0, None if origin is None else LETTERS[origin])

    def pass_to(self, now):
        dead = [name for name in self.queue.names() if self.queue.row(name)[0] == "dead"]
        self.now = now
        if len(self.queue) > 0:
            self.do("lost", self.queue.names()[0], 0)
        names = [name for name in sorted(self.queue.names()) if self.queue.row(name)[0] == "dead"]
        return [LETTERS.index(name) for name in names if name not in dead]

    def take(self):
        taken = self.do("take", 1)
        return (LETTERS.index(taken[0][0]), taken[0][1]) if taken else None

    def effect(self, r):
        return self.do("effect", LETTERS[r])

    def follow(self, r):
        return [LETTERS.index(name) for name in self.do("follow", LETTERS[r])]

    def is_valid(self, r, token):
        place, _, _, last, _ = self.queue.row(LETTERS[r])
        return place == "held" and last == token

    def __getattr__(self, word):
        return lambda r, token: self.do(word, LETTERS[r], token)


class QueueShop(Shop):
    """Workers who go by a queue: each transaction of a plan is one of the queue."""

    def __init__(self, lines, rows, workers, may):
        super().__init__(lines, [], workers, may)
        self.plain.scene_rows = rows
        self.table = QueueTable(lines, self.plain.line)
        for r, (key, weight, origin) in enumerate(rows):
            if origin != "late":
                self.table.put(r, key, weight, None if origin == "here" else origin)

    def accident(self, word, w):
        answer = super().accident(word, w)
        # The second table returns nothing for more, the queue the end of the hold.
        return answer[:1] if word == "more" else answer

    def do_part(self, w):
        worker = self.workers[w]
        if worker is None:
            return self.take(w)
        words = self.plain.plan[worker["point"]]
        r, token = worker["r"], worker["token"]
        name = LETTERS[r]
        forms = {"effect": ("effect", name), "follow": ("follow", name), "finish": ("finish", name, token)}
        deeds = [forms[word] for word in words if word in forms]
        late = "check" in words and self.is_late(worker)
        if late and not self.is_refused_ahead(words, r, token):
            self.workers[w] = None
            return ["late"]
        try:
            results = self.table.queue.do(self.table.now, deeds) if deeds else []
        except Stale:
            self.workers[w] = None
            return ["stale"]
        worker["point"] += 1
        if worker["point"] == len(self.plain.plan):
            self.workers[w] = None
        return [text for deed, result in zip(deeds, results) for text in self.told(deed[0], r, result)]

    def is_refused_ahead(self, words, r, token):
        """Whether the finish stands ahead of the check and is refused."""
        ahead = "finish" in words and words.index("finish") < words.index("check")
        return ahead and self.plain.fence and not self.table.is_valid(r, token)

    def told(self, word, r, result):
        if word == "effect":
            return [f"effect {r}" if result else f"again {r}"]
        if word == "finish":
            return [f"finish {r}"]
        return [f"follow {LETTERS.index(name)}" for name in result] or ["follow"]

    def places(self):
        """What the machine must know of each row."""
        found = []
        for r in range(len(self.plain.scene_rows)):
            if LETTERS[r] not in self.table.queue:
                found.append(("yet", 0, 0, 0))
                continue
            place, time, attempts, _, effects = self.table.queue.row(LETTERS[r])
            ticks = max(time - self.table.now, 0) if time is not None else 0
            found.append((place, ticks, min(attempts, self.plain.cap), min(effects, 2)))
        return found


class BesideTheMachine(Case):
    """[5]: a word is refused there exactly if it is refused here, and the rows are the same."""

    def test_weavings(self):
        chance = random.Random(55)
        answers = set()
        for _ in range(1500):
            rows = rows_by_lot(chance)
            while [row[2] for row in rows] != sorted([row[2] for row in rows], key=lambda origin: origin == "late"):
                rows = rows_by_lot(chance)
            lines, workers = lines_by_lot(chance), chance.randint(1, 3)
            may = tuple(word for word in ACCIDENTS if chance.random() < 0.6)
            scene = Scene(Setting(lines), rows, workers=workers, may=may)
            self.compare(scene, QueueShop(lines, rows, workers, may), deeds_by_lot(chance, scene.deeds(), 50), answers)
        self.assertLess({"stale", "late", "none", "nothing", "dead", "again", "follow"}, answers)

    def compare(self, scene, shop, weaving, answers):
        state = start(scene)
        late = [r for r, row in enumerate(scene.rows()) if row[2] == "late"]
        for deed in weaving:
            if deed[0] == "put" and any(state[0][r][0] == "yet" for r in late if r < deed[1]):
                continue
            state, answer = step(scene, state, deed)
            self.assertEqual(answer, shop.do(deed), (scene.setting, scene.rows(), state, deed))
            self.assertEqual([row[:4] for row in state[0]], shop.places(), (scene.setting, scene.rows(), deed))
            answers.update(text.split(" ")[0] for text in answer)


if __name__ == "__main__":
    unittest.main()
