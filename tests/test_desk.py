"""[106]: a desk, which is asked by lines of text."""

import random
import unittest

from rowqueue.book import Book
from rowqueue.desk import Desk
from rowqueue.errors import Known, NoCommand, NoOrigin, NoRow, Nothing, Past, Stale, Stopped, TooMany, Wrong
from rowqueue.notation import show_log, show_transaction
from rowqueue.settings import Setting
from tests.anything import THINGS
from tests.cases import Case
from tests.diary import outcome
from tests.samples import lines_by_lot
from tests.test_notation import BAD_DEEDS
from tests.test_queue import deed_by_lot

GREAT = 10**18


def desk_of(*lines):
    return Desk(Setting(list(lines)))


def text_of(result):
    """[106] again, for one result."""
    if result is None or isinstance(result, bool):
        return {None: "ok", True: "yes", False: "no"}[result]
    if not isinstance(result, list):
        return str(result)
    if all(isinstance(one, str) for one in result):
        return " ".join(result) or "-"
    return ", ".join(f"{name} {token}" for name, token in result)


class Desks(Case):
    def says(self, desk, *pairs):
        for line, wanted in pairs:
            self.assertEqual(desk.execute(line), wanted, line)

    def test_wrong(self):
        for thing in THINGS + [Setting, Book(Setting()), desk_of(), "hold 3"]:
            if not isinstance(thing, Setting):
                self.refuses(Wrong, [0], Desk, thing)

    def test_a_new_desk(self):
        self.says(desk_of(), ("time", "0"), ("log", ""), ("free 8", "-"), ("free 1", "-"))

    def test_results_of_all_kinds(self):
        self.says(
            desk_of("hold 3", "tries 3", "once 6"),
            ("10: put a k 5 0 -", "ok"),
            ("10: put b k 0 12 -; put c m 1 0 a; put d m 1 0 a", "ok; ok; ok"),
            ("11: take 8", "a 1"),
            ("12: take 2; take 1; effect a; effect a", "b 1; -; yes; no"),
            ("13: more a 1; follow a; follow b; follow a", "16; c d; -; -"),
            ("14: take 8; finish a 1; lost a 1", "c 1, d 1; ok; no"),
            ("14: fail c 1; give d 1; take 2; fail c 2; take 8", "no; ok; c 2, d 2; no; c 3"),
            ("14: fail c 3", "yes"),
            ("14: take 1", "-"),
            (f"{GREAT}: take 1", "b 2"),
        )
        line = "3: put a k 0 0 -; take 1; more a 9; lost a 2; lost a 1"
        self.says(desk_of("hold link"), (line, "ok; a 1; ok; no; no"))
        self.says(desk_of("hold link", "tries 1"), ("3: put a k 0 0 -; take 1; lost a 1", "ok; a 1; yes"))
        self.says(desk_of("hold 4"), (f"{GREAT}: put a k 0 0 -; take 1; more a 1", f"ok; a 1; {GREAT + 4}"))

    def test_row_of_rows_in_all_places(self):
        self.says(
            desk_of("hold 3", "tries 2", "pause 2"),
            ("10: put a k 5 0 -; put b k 0 50 -; put c k 0 0 a; take 1", "ok; ok; ok; a 1"),
            ("row a", "held 13 1 1 0"),
            ("row b", "ready 50 0 0 0"),
            ("row c", "yet - 0 0 0"),
            ("11: fail a 1; effect a", "no; yes"),
            ("row a", "ready 13 1 1 1"),
            ("13: take 8", "a 2"),
            ("16: follow a", "c"),
            ("row a", "dead - 2 2 1"),
            ("row c", "ready 16 0 0 0"),
            ("16: take 8; finish c 1", "c 1; ok"),
            ("row c", "done - 1 1 0"),
        )
        self.says(desk_of("hold ever"), ("0: put a k 0 0 -; take 1", "ok; a 1"), ("row a", "held - 1 1 0"))

    def test_free(self):
        desk = desk_of()
        desk.execute("3: " + "; ".join(f"put {name} k 0 0 -" for name in "abcdefghij"))
        for many in range(1, 9):
            self.says(desk, (f"free {many}", " ".join("abcdefghij"[:many])))
        for many in ["0", "9", "10", "-1", "01", "08", "a", "-", "", "1 1", "+1", " 1", "1 ", "9" * 5000]:
            self.refuses(NoCommand, [], desk.execute, f"free {many}")

    def test_time_and_log(self):
        self.says(
            desk_of(),
            ("7: put a k 0 0 -; take 1", "ok; a 1"),
            ("time", "7"),
            ("late 3: put b k 0 9 -", "ok"),
            ("time", "7"),
            ("8: effect a", "yes"),
            ("time", "8"),
            ("log", "3: put b k 0 9 -\n7: put a k 0 0 -; take 1\n8: effect a\n"),
            ("back", "ok"),
            ("time", "7"),
            ("log", "3: put b k 0 9 -\n7: put a k 0 0 -; take 1\n"),
        )

    def test_late_back_and_again(self):
        desk = desk_of("hold ever")
        self.says(
            desk,
            ("10: put a k 0 0 -", "ok"),
            ("20: take 1", "a 1"),
            ("late 15: put b k 9 0 -; take 2; give a 1; give b 1", "ok; a 1, b 1; ok; ok"),
            ("row a", "held - 2 2 0"),
            ("back", "ok"),
            ("row a", "held - 1 1 0"),
            ("again", "ok"),
            ("row a", "held - 2 2 0"),
            ("back", "ok"),
            ("back", "ok"),
            ("back", "ok"),
            ("log", ""),
            ("again", "ok"),
            ("log", "10: put a k 0 0 -\n"),
            ("late 10: effect a; effect a", "yes; yes"),
        )
        self.refuses(Nothing, [], desk.execute, "again")

    def test_errors_of_the_book_and_its_queue(self):
        desk = desk_of()
        self.refuses(Nothing, [], desk.execute, "back")
        self.refuses(Nothing, [], desk.execute, "again")
        self.refuses(NoRow, ["a"], desk.execute, "row a")
        desk.execute("10: put a k 0 0 -; take 1")
        log = desk.execute("log")
        for line, wanted, fields in [
            ("9: take 1", Past, [9]),
            ("10: put a k 0 0 -", Known, ["a"]),
            ("10: put b k 0 0 c", NoOrigin, ["c"]),
            ("99: effect b", NoRow, ["b"]),
            ("12: finish a 1", Stale, ["a"]),
            ("99: take 1; finish a 1", Stale, ["a"]),
            ("late 9: effect a", Stopped, [0]),
            ("late 9: put a k 0 0 -", Stopped, [1]),
            ("late 11: effect b", Stopped, [1]),
            ("again", Nothing, []),
            ("row b", NoRow, ["b"]),
            ("row abcdefgh", NoRow, ["abcdefgh"]),
        ]:
            self.refuses(wanted, fields, desk.execute, line)
            self.says(desk, ("log", log), ("time", "10"), ("row a", "held 12 1 1 0"))
        for now in range(20, 119):
            desk.execute(f"{now}: effect a")
        self.refuses(TooMany, [100], desk.execute, "0: effect b")
        self.refuses(TooMany, [100], desk.execute, "late 0: effect b")
        self.refuses(NoCommand, [], desk.execute, "late 0: effect")
        desk = desk_of()
        for start in range(0, 200, 20):
            names = ["".join("abcdefghij"[int(sign)] for sign in str(at)) for at in range(1000 + start, 1020 + start)]
            desk.execute("0: " + "; ".join(f"put {name} k 0 0 -" for name in names))
        self.refuses(TooMany, [200], desk.execute, "0: put a k 0 0 -")

    def test_no_command(self):
        desk = desk_of()
        self.says(desk, ("10: put a k 0 0 -; take 1", "ok; a 1"), ("11: effect a", "yes"), ("back", "ok"))
        others = ["", " ", "back ", " back", "again ", "  back", "BACK", "time ", "log ", "log\n", "back back"]
        others += ["time 1", "row", "row ", "row a ", "row  a", " row a", "row A", "row -", "row abcdefghi", "row a b", "row 1"]
        others += ["free", "free ", "free  1", "free 1 ", " free 1", "free a", "free 9", "free 0", "late", "late "]
        others += ["late  12: take 1", "late 12: take 1 ", "late late 12: take 1", "12: late take 1"]
        others += ["12:take 1", "12 : take 1", "012: take 1", "12: ", "12:", "12", "take 1", ": take 1", "-: take 1"]
        others += ["late back", "late log", "log: take 1", "do 12: take 1", "queue", "copied", "len", "12: take 1\n"]
        others += ["12: " + "; ".join(["take 1"] * 21), f"{GREAT + 1}: take 1", "late " + "9" * 5000 + ": take 1"]
        others += [f"12: {text}" for text in BAD_DEEDS] + [f"late 12: take 1; {text}" for text in BAD_DEEDS]
        before = [desk.execute(line) for line in ("log", "time", "row a", "free 8")]
        for thing in others + THINGS + [b"back", ["back"], ("row", "a"), Setting(), desk]:
            self.refuses(NoCommand, [], desk.execute, thing)
        self.assertEqual([desk.execute(line) for line in ("log", "time", "row a", "free 8")], before)
        # What was taken back can be done again still.
        self.says(desk, ("again", "ok"), ("log", "10: put a k 0 0 -; take 1\n11: effect a\n"))

    def test_beside_a_book(self):
        chance = random.Random(106)
        told = {}
        for _ in range(200):
            setting = Setting(lines_by_lot(chance))
            desk, book = Desk(setting), Book(setting)
            for _ in range(40):
                line, function, things = self.call_by_lot(chance, book)
                found, wanted = outcome(desk.execute, line), outcome(function, *things)
                if line.split(" ")[0] == "row" and wanted[0] != "NoRow":
                    wanted = " ".join("-" if part is None else str(part) for part in wanted)
                elif line[0].isdigit() or line.startswith("late"):
                    wanted = wanted if isinstance(wanted, tuple) else "; ".join(text_of(one) for one in wanted)
                elif not isinstance(wanted, (str, tuple)):
                    wanted = text_of(wanted)
                self.assertEqual(found, wanted, (setting, line))
                word = found[0] if isinstance(found, tuple) else "ok"
                told[word] = told.get(word, 0) + 1
            self.assertEqual(desk.execute("log"), show_log(book))
        self.assertLess({"Past", "Known", "NoRow", "NoOrigin", "Stale", "Stopped", "Nothing"}, set(told))
        self.assertGreater(told["ok"], 3000)

    def call_by_lot(self, chance, book):
        """A line for a desk, and the call of a book that it stands for."""
        word = chance.choice(["do"] * 6 + ["late", "late", "back", "again", "row", "free", "time", "log"])
        if word in ("do", "late"):
            last = book.queue().time()
            now = max(last + chance.choice([0, 1, 2, 3, -1]), 0) if word == "do" else chance.randint(0, last + 2)
            deeds = [deed_by_lot(chance, now, "abcd") for _ in range(chance.choice([1, 1, 2, 4]))]
            text = show_transaction((now, deeds))
            return (text, book.do, [now, deeds]) if word == "do" else (f"late {text}", book.late, [now, deeds])
        if word in ("back", "again"):
            return word, getattr(book, word), []
        if word == "row":
            name = chance.choice("abcde")
            return f"row {name}", book.queue().row, [name]
        if word == "free":
            many = chance.randint(1, 8)
            return f"free {many}", book.queue().free, [many]
        return (word, show_log, [book]) if word == "log" else (word, book.queue().time, [])


if __name__ == "__main__":
    unittest.main()
