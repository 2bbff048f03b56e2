"""[104]: a book of transactions."""

import copy
import random
import unittest

from rowqueue.book import Book
from rowqueue.errors import Known, NoRow, Nothing, Past, Stale, Stopped, TooMany, Wrong
from rowqueue.queue import Queue
from rowqueue.settings import Setting
from tests.anything import THINGS
from tests.cases import Case
from tests.diary import Diary, outcome, seen_in, seen_in_ledger
from tests.samples import lines_by_lot
from tests.test_queue import deed_by_lot, put

GREAT = 10**18


def book_of(*lines):
    return Book(Setting(list(lines)))


def filled(*lines):
    """A book with a row that is taken, given back and taken again, and held for ever."""
    book = book_of("hold ever", *lines)
    book.do(10, [put("a"), ("take", 1)])
    book.do(20, [("give", "a", 1)])
    book.do(30, [("take", 1)])
    return book


def seen(book):
    """All that a book answers to questions."""
    queues = [seen_in(book.queue_at(now)) for now in range(0, 50, 5)]
    return [len(book), book.log(), seen_in(book.queue()), queues]


class Stays(Case):
    def refused(self, book, wanted, fields, function, *things):
        """The call raises this error, and changes neither the book nor what it is handed in."""
        before, given = seen(book), copy.deepcopy(things)
        self.refuses(wanted, fields, function, *things)
        self.assertEqual(seen(book), before)
        self.assertEqual(things, given)


class Books(Stays):
    def test_a_new_book(self):
        book = book_of()
        self.assertEqual([len(book), book.log()], [0, []])
        self.assertEqual(seen_in(book.queue()), [0, [], [], [], None, 0])
        self.assertEqual(seen_in(book.queue_at(7)), [7, [], [], [], None, 0])
        self.assertIs(type(book.queue()), Queue)

    def test_wrong(self):
        for thing in THINGS + [Setting, ["hold 3"], book_of(), Queue(Setting())]:
            if not isinstance(thing, Setting):
                self.refuses(Wrong, [0], Book, thing)

    def test_equal(self):
        one, other = filled(), filled()
        self.assertTrue(one == other and not one != other)
        self.assertTrue(book_of("hold 2") == book_of())
        self.assertFalse(book_of("hold 3") == book_of())
        self.assertFalse(filled("margin 1") == one)
        one.back()
        self.assertFalse(one == other)
        self.assertTrue(one != other)
        # What is taken back does not matter, nor how the log came to stand.
        other.back()
        other.back()
        other.do(20, [("give", "a", 1)])
        self.assertTrue(one == other)
        late = book_of("hold ever")
        late.do(30, [put("c")])
        late.back()
        late.do(30, [put("b")])
        late.late(20, [put("a")])
        early = book_of("hold ever")
        early.do(20, [put("a")])
        early.do(30, [put("b")])
        self.assertTrue(late == early)
        early.late(25, [put("c")])
        self.assertFalse(late == early)
        for thing in [None, 0, [], (), "Book", Setting(), late.queue(), late.log(), len]:
            self.assertFalse(late == thing)
            self.assertFalse(thing == late)
            self.assertTrue(late != thing)

    def test_unlike_logs(self):
        logs = [[], [(1, [put("a")])], [(2, [put("a")])], [(1, [put("b")])], [(1, [put("a"), put("b")])]]
        logs += [[(1, [put("a")]), (1, [put("b")])], [(1, [put("b")]), (1, [put("a")])]]
        for at, log in enumerate(logs):
            for k, other in enumerate(logs):
                books = [book_of(), book_of()]
                for book, transactions in zip(books, [log, other]):
                    for transaction in transactions:
                        book.do(*transaction)
                self.assertIs(books[0] == books[1], at == k)

    def test_what_is_handed_in_may_be_changed_behind(self):
        deeds = [put("a"), ("take", 1)]
        book = book_of()
        self.assertEqual(book.do(10, deeds), [None, [("a", 1)]])
        deeds.append(("effect", "a"))
        self.assertEqual(book.log(), [(10, [put("a"), ("take", 1)])])
        deeds = [put("b")]
        book.late(5, deeds)
        deeds.clear()
        self.assertEqual(book.log(), [(5, [put("b")]), (10, [put("a"), ("take", 1)])])
        book.back()
        book.again()
        self.assertEqual(book.log()[0], (5, [put("b")]))

    def test_what_was_returned_may_be_changed_behind(self):
        book = filled()
        before = seen(book)
        log = book.log()
        for _, deeds in log:
            deeds.append("more")
        log.clear()
        for queue in [book.queue(), book.queue_at(25), book.queue_at(30)]:
            queue.do(40, [put("z"), ("take", 8)])
        self.assertEqual(seen(book), before)
        results = book.do(40, [("give", "a", 2), ("take", 2)])
        results[1].clear()
        book.back()
        self.assertEqual(seen(book), before)
        book.again()
        self.assertEqual(book.queue().row("a"), ("held", None, 3, 3, 0))
        # And a queue does not go on with the book.
        queue = book.queue()
        book.do(50, [("finish", "a", 3)])
        self.assertEqual(queue.row("a")[0], "held")


class Do(Stays):
    def test_as_a_queue(self):
        book, queue = book_of("hold 3"), Queue(Setting(["hold 3"]))
        transactions = [(10, [put("a"), put("b"), ("take", 1)]), (10, [("effect", "a")]), (15, [("take", 2)])]
        for at, (now, deeds) in enumerate(transactions):
            self.assertEqual(book.do(now, deeds), queue.do(now, deeds))
            self.assertEqual([len(book), book.log()], [at + 1, transactions[: at + 1]])
            self.assertEqual(seen_in(book.queue()), seen_in(queue))

    def test_a_transaction_that_raises_an_error_does_not_stand(self):
        book = book_of("hold 3")
        book.do(30, [put("a"), ("take", 1)])
        self.refused(book, Past, [29], book.do, 29, [put("b")])
        self.refused(book, NoRow, ["x"], book.do, 90, [put("b"), ("take", 1), ("effect", "x")])
        self.refused(book, Known, ["a"], book.do, GREAT, [put("a")])
        self.refused(book, Stale, ["a"], book.do, 33, [("finish", "a", 1)])
        # The time stays as it was, unlike that of a queue.
        self.assertEqual(book.queue().time(), 30)
        self.assertEqual(book.queue().row("a"), ("held", 33, 1, 1, 0))
        self.assertEqual(book.do(31, [("finish", "a", 1)]), [None])

    def test_what_was_taken_back_can_be_done_again_behind_an_error(self):
        book = filled()
        book.back()
        for function, now, error, field in [(book.do, 19, Past, 19), (book.late, 21, Stopped, 2)]:
            self.refused(book, error, [field], function, now, [("finish", "a", 7)])
        book.again()
        self.assertEqual(len(book), 3)

    def test_too_many_is_ahead_of_all_other_errors(self):
        book = book_of()
        for now in range(100):
            book.do(now, [put("a") if now == 0 else ("follow", "a")])
        self.assertEqual(len(book), 100)
        before = book.log()
        for now, deeds in [(0, [put("a")]), (99, [put("a")]), (99, [("effect", "x")]), (200, [("effect", "a")])]:
            self.refuses(TooMany, [100], book.do, now, deeds)
            self.refuses(TooMany, [100], book.late, now, deeds)
        self.assertEqual(book.log(), before)
        book.back()
        self.refuses(Past, [97], book.do, 97, [put("a")])
        self.refuses(Stopped, [99], book.late, 98, [put("a")])
        self.refuses(Stopped, [1], book.late, 0, [("effect", "x")])
        self.assertEqual(book.late(50, [("effect", "a")]), [True])
        self.refuses(TooMany, [100], book.late, 50, [("effect", "a")])
        self.assertEqual(len(book), 100)


class Late(Stays):
    def test_at_each_place(self):
        for now, at in [(10, 1), (15, 1), (19, 1), (20, 2), (25, 2), (30, 3), (31, 3), (GREAT, 3)]:
            book = filled()
            log = book.log()
            self.assertEqual(book.late(now, [put("b", due=99), ("effect", "a")]), [None, True])
            wanted = log[:at] + [(now, [put("b", due=99), ("effect", "a")])] + log[at:]
            self.assertEqual(book.log(), wanted)
            self.assertEqual(book.queue().row("a"), ("held", None, 2, 2, 1))
            self.assertEqual(book.queue().time(), max(now, 30))
        book = filled()
        self.assertEqual(book.late(9, [put("b", due=99)]), [None])
        self.assertEqual(book.log()[0], (9, [put("b", due=99)]))
        self.assertEqual(book.queue().names(), ["b", "a"])

    def test_behind_those_of_the_same_time(self):
        book = book_of()
        for name in "ab":
            book.do(5, [put(name)])
        book.do(6, [put("c")])
        for name in "de":
            book.late(5, [put(name)])
        self.assertEqual(book.queue().names(), ["a", "b", "d", "e", "c"])

    def test_those_behind_are_done_again(self):
        book = book_of("hold ever")
        book.do(10, [put("a")])
        self.assertEqual(book.do(20, [("take", 1)]), [[("a", 1)]])
        # Another row is taken then, and the old results are forgotten.
        self.assertEqual(book.late(5, [put("b")]), [None])
        self.assertEqual([book.queue().row(name)[0] for name in "ab"], ["ready", "held"])
        self.assertEqual(seen_in(book.queue_at(10))[1], ["b", "a"])

    def test_stopped(self):
        book = filled()
        for now, deeds, at in [
            (5, [("effect", "a")], 0),
            (5, [put("a")], 1),
            (10, [put("a")], 1),
            (10, [("take", 1), ("effect", "x")], 1),
            (10, [("give", "a", 1)], 2),
            (12, [("finish", "a", 1)], 2),
            (20, [("give", "a", 1)], 2),
            (29, [("give", "a", 1)], 2),
            (30, [("give", "a", 1)], 3),
            (GREAT, [("effect", "a"), put("a")], 3),
        ]:
            self.refused(book, Stopped, [at], book.late, now, deeds)
        # It is the first transaction of the new log that counts, also if more of them raise errors.
        book.do(40, [("finish", "a", 2)])
        self.refused(book, Stopped, [2], book.late, 15, [("give", "a", 1)])
        self.refused(book, Stopped, [4], book.late, 35, [("give", "a", 2)])
        self.refused(book, Stopped, [2], book.late, 25, [("give", "a", 1)])

    def test_a_hold_that_ends_between(self):
        book = book_of("hold 3", "tries 1")
        book.do(10, [put("a")])
        book.do(20, [put("b")])
        self.assertEqual(book.late(12, [("take", 1)]), [[("a", 1)]])
        self.assertEqual(book.queue().row("a"), ("dead", None, 1, 1, 0))
        self.assertEqual(book.queue_at(14).row("a"), ("held", 15, 1, 1, 0))
        self.assertEqual(book.queue_at(15).row("a"), ("dead", None, 1, 1, 0))


class BackAndAgain(Stays):
    def test_nothing(self):
        book = book_of()
        for function in [book.back, book.again]:
            self.refused(book, Nothing, [], function)
        book.do(1, [put("a")])
        self.refused(book, Nothing, [], book.again)
        self.assertIs(book.back(), None)
        self.refused(book, Nothing, [], book.back)
        self.assertIs(book.again(), None)
        self.refused(book, Nothing, [], book.again)
        self.assertEqual(book.log(), [(1, [put("a")])])

    def test_several_in_their_order(self):
        book = book_of("hold ever")
        marks = [seen(book)]
        for word, now, deeds in [
            ("do", 10, [put("a")]),
            ("do", 20, [put("b"), ("take", 1)]),
            ("late", 15, [("take", 1)]),
            ("late", 5, [put("c", due=99)]),
            ("do", 30, [("take", 8)]),
            ("late", 30, [("effect", "a")]),
        ]:
            getattr(book, word)(now, deeds)
            marks.append(seen(book))
        for at in [5, 4, 3, 2, 1, 0]:
            book.back()
            self.assertEqual(seen(book), marks[at])
        for at in [1, 2, 3, 4, 5, 6]:
            book.again()
            self.assertEqual(seen(book), marks[at])
        for step, at in zip("bbabbbaaabaa", [5, 4, 5, 4, 3, 2, 3, 4, 5, 4, 5, 6]):
            book.back() if step == "b" else book.again()
            self.assertEqual(seen(book), marks[at])

    def test_what_is_new_ends_what_was_taken_back(self):
        for word in ["do", "late"]:
            book = filled()
            book.back()
            book.back()
            self.assertEqual(getattr(book, word)(25, [("effect", "a")]), [True])
            self.refused(book, Nothing, [], book.again)
            book.back()
            self.assertEqual(len(book), 1)
            book.again()
            self.assertEqual(book.log()[1], (25, [("effect", "a")]))
            self.refused(book, Nothing, [], book.again)

    def test_times_go_back_too(self):
        book = filled()
        book.back()
        self.assertEqual(book.queue().time(), 20)
        book.do(22, [("effect", "a")])
        self.assertEqual(book.queue().time(), 22)


class Questions(Stays):
    def test_queue_at_lets_holds_end(self):
        book = book_of("hold 3", "pause 2")
        book.do(10, [put("a"), ("take", 1)])
        self.assertEqual([book.queue_at(now).names() for now in (0, 9)], [[], []])
        held, ready = ("held", 13, 1, 1, 0), ("ready", 15, 1, 1, 0)
        for now, row in [(10, held), (12, held), (13, ready), (15, ready), (GREAT, ready)]:
            self.assertEqual([book.queue_at(now).time(), book.queue_at(now).row("a")], [now, row])
        # The queue behind all stands at the time of the last one.
        self.assertEqual([book.queue().time(), book.queue().row("a")], [10, held])

    def test_queue_at_ahead_between_and_behind(self):
        book = filled()
        places = {0: None, 9: None, 10: "held", 19: "held", 20: "ready", 29: "ready", 30: "held", GREAT: "held"}
        for now, place in places.items():
            queue = book.queue_at(now)
            self.assertEqual(queue.time(), now)
            self.assertEqual(queue.row("a")[0] if "a" in queue else None, place)
            queue.do(now, [put("z")])
        self.assertEqual(book.queue().names(), ["a"])

    def test_copied(self):
        book = filled()
        book.back()
        twin = book.copied()
        self.assertIs(type(twin), Book)
        self.assertTrue(twin == book)
        self.assertEqual(seen(twin), seen(book))
        before = seen(book)
        # It goes on independently, with what can be taken back and done again.
        twin.again()
        twin.do(40, [("finish", "a", 2)])
        self.assertEqual([len(twin), seen(book)], [4, before])
        for _ in range(4):
            twin.back()
        self.refuses(Nothing, [], twin.back)
        self.assertEqual([len(twin), seen(book)], [0, before])
        book.do(50, [("effect", "a")])
        self.refuses(Nothing, [], book.again)
        for _ in range(4):
            twin.again()
        self.refuses(Nothing, [], twin.again)
        self.assertEqual(twin.log()[3], (40, [("finish", "a", 2)]))


class SecondBook(Case):
    def test_calls_by_lot(self):
        chance = random.Random(104)
        told = {}
        for _ in range(400):
            lines = lines_by_lot(chance)
            pairs = [(Book(Setting(lines)), Diary(lines))]
            for _ in range(40):
                book, diary = chance.choice(pairs)
                kind, things = self.call_by_lot(chance, diary)
                if kind == "copied":
                    pairs.append((book.copied(), diary.copied()))
                    continue
                found = outcome(getattr(book, kind), *things)
                self.assertEqual(found, outcome(getattr(diary, kind), *things), (lines, diary.log(), kind, things))
                word = found[0] if isinstance(found, tuple) else "ok"
                told[kind, word] = told.get((kind, word), 0) + 1
                for one, other in pairs:
                    self.compare(chance, one, other)
                self.assertIs(pairs[0][0] == pairs[-1][0], pairs[0][1].log() == pairs[-1][1].log())
        for kind, word in [("do", "Past"), ("late", "Stopped"), ("back", "Nothing"), ("again", "Nothing")]:
            self.assertGreater(told[kind, word], 30, told)
        for kind in ["do", "late", "back", "again"]:
            self.assertGreater(told[kind, "ok"], 100, told)

    def call_by_lot(self, chance, diary):
        kinds = ["do"] * 8 + ["late"] * 6 + ["back"] * 4 + ["again"] * 3
        kind = chance.choice(kinds + ["copied"] * (len(diary.done) % 2))
        if kind not in ("do", "late"):
            return kind, []
        now = diary.log()[-1][0] if diary.done else 0
        now = max(now + chance.choice([0, 1, 1, 2, 5, -1]), 0) if kind == "do" else chance.randint(0, now + 3)
        return kind, [now, [deed_by_lot(chance, now, "abc") for _ in range(chance.choice([1, 1, 2, 3]))]]

    def compare(self, chance, book, diary):
        self.assertEqual([book.log(), len(book)], [diary.log(), len(diary.done)])
        self.assertEqual(seen_in(book.queue()), seen_in_ledger(diary.queue()))
        now = chance.randint(0, 30)
        self.assertEqual(seen_in(book.queue_at(now)), seen_in_ledger(diary.queue_at(now)))


if __name__ == "__main__":
    unittest.main()
