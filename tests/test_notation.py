"""[105]: the texts of transactions and of logs."""

import copy
import random
import unittest

from rowqueue.book import Book
from rowqueue.errors import NoText, QueueError, Stopped
from rowqueue.notation import read_log, read_transaction, show_log, show_transaction
from rowqueue.settings import Setting
from tests.anything import THINGS
from tests.cases import Case
from tests.samples import lines_by_lot
from tests.test_queue import put, transactions_by_lot

GREAT = 10**18
LONG = 10**40 - 1

# A text of each word, and the deed.
DEEDS = {
    "put a k 5 0 -": ("put", "a", "k", 5, 0, None),
    "put abcdefgh z 0 7 b": ("put", "abcdefgh", "z", 0, 7, "b"),
    f"put a abcdefgh 9 {GREAT} abcdefgh": ("put", "a", "abcdefgh", 9, GREAT, "abcdefgh"),
    "take 1": ("take", 1),
    "take 8": ("take", 8),
    "finish a 1": ("finish", "a", 1),
    "fail a 0": ("fail", "a", 0),
    "give zz 12": ("give", "zz", 12),
    f"more a {LONG}": ("more", "a", LONG),
    f"lost put {GREAT + 1}": ("lost", "put", GREAT + 1),
    "effect take": ("effect", "take"),
    "follow b": ("follow", "b"),
}

# Texts of deeds that are nearly right.
BAD_DEEDS = [
    *["", "take", "take ", "take 0", "take 9", "take 01", "take 10", "take -1", "take +1", "take 1 1", "take a", "1"],
    *["take  1", " take 1", "take 1 ", "Take 1", "takes 1", "take1", "take 1;", ";take 1", "take 1,", "take: 1"],
    *["take -", "finish a", "finish 1 a", "finish a -", "finish a 01", "finish a 1 1", "finish a -1", "finish  a 1"],
    *[f"finish a {10**40}", f"finish a 0{LONG}", "finish A 1", "finish - 1", "finish abcdefghi 1", "finish a1 1"],
    *["finish a 1_0", "finish a " + "9" * 5000, "finish a " + "0" * 40, "finish a 00", "finish a\n1", "finish a 1\n"],
    *["effect", "effect ", "effect a 1", "effect abcdefghi", "effect A", "effect -", "effect a b", "effect 1"],
    *["follow", "follow a 0", "follow a ", "lost a", "lost a b", "give a", "fail a", "more a", "more a 1 2"],
    *["done a 1", "finish a 1.0", "effect _", "put"],
    *["put a k 5 0", "put a k 5 0 - -", "put a k 10 0 -", "put a k -1 0 -", "put a k 05 0 -", "put a k 5 00 -"],
    *[f"put a k 5 {GREAT + 1} -", "put a k 5 -1 -", "put - k 5 0 -", "put a - 5 0 -", "put a k - 0 -"],
    *["put a k 5 0 None", "put a k 5 0 1", "put a k 5 0 abcdefghi", "put abcdefghi k 5 0 -", "put a abcdefghi 5 0 -"],
    *["put a k 5 0 --", "put a k 5 0  -", "put a k 5 0 - ", "put  a k 5 0 -", "put a k a 0 -", "put a k 5 a -"],
    *["put a k 5 - -", "put a k 5 0 A", "put a k 5 0 a1"],
]


def transaction_by_lot(chance):
    texts = [chance.choice(list(DEEDS)) for _ in range(chance.choice([1, 1, 2, 3, 20]))]
    now = chance.choice([0, 1, 7, 10, 20, 1234567890, GREAT, GREAT - 1, chance.randrange(GREAT)])
    return f"{now}: " + "; ".join(texts), (now, [DEEDS[text] for text in texts])


class Transactions(Case):
    def test_there_and_back(self):
        chance = random.Random(105)
        for _ in range(600):
            text, transaction = transaction_by_lot(chance)
            given = copy.deepcopy(transaction)
            self.assertEqual(show_transaction(transaction), text)
            found = read_transaction(text)
            self.assertEqual(found, transaction)
            self.assertEqual([type(found), type(found[1])], [tuple, list])
            self.assertTrue(all(type(part) in (str, int, type(None)) for deed in found[1] for part in deed))
            self.assertEqual(transaction, given)

    def test_the_words_of_the_document(self):
        self.assertEqual(show_transaction((20, [("take", 2), ("effect", "b")])), "20: take 2; effect b")
        self.assertEqual(read_transaction("20: take 2; effect b"), (20, [("take", 2), ("effect", "b")]))

    def test_each_deed(self):
        for text, deed in DEEDS.items():
            self.assertEqual(read_transaction(f"0: {text}"), (0, [deed]))
            self.assertEqual(read_transaction(f"{GREAT}: take 3; {text}"), (GREAT, [("take", 3), deed]))

    def test_deeds_that_are_none(self):
        for text in BAD_DEEDS:
            for whole in [f"5: {text}", f"5: take 1; {text}", f"5: {text}; take 1", f"5: take 1; {text}; effect a"]:
                self.refuses(NoText, [], read_transaction, whole)

    def test_times(self):
        others = ["", "-", "-1", "+1", "01", "00", " 1", "1 ", "a", "1.0", "1e3", f"{GREAT + 1}", f"0{GREAT}"]
        for time in others + ["9" * 40, "9" * 41, "9" * 5000, "0" * 40]:
            self.refuses(NoText, [], read_transaction, f"{time}: take 1")
        for time in [0, 1, 9, 10, GREAT]:
            self.assertEqual(read_transaction(f"{time}: take 1"), (time, [("take", 1)]))

    def test_0_1_20_and_21_deeds(self):
        for many in [0, 1, 2, 19, 20, 21, 22, 5000]:
            text = "3: " + "; ".join(["effect a"] * many)
            if 1 <= many <= 20:
                self.assertEqual(read_transaction(text), (3, [("effect", "a")] * many))
            else:
                self.refuses(NoText, [], read_transaction, text)
        self.refuses(NoText, [], read_transaction, "3:")
        self.refuses(NoText, [], read_transaction, "3")

    def test_one_sign_more_or_less_anywhere(self):
        """Each such text is either none, or writes another transaction that is shown like this."""
        for text in ["20: take 2; put a k 5 0 -; finish b 1", "0: effect abcdefgh", f"{GREAT}: more a {LONG}; take 8"]:
            others = [text[:at] + text[at + 1 :] for at in range(len(text))]
            for sign in " :;-\n0a.A":
                others += [text[:at] + sign + text[at:] for at in range(len(text) + 1)]
                others += [text[:at] + sign + text[at + 1 :] for at in range(len(text))]
            read = 0
            for other in others:
                try:
                    found = read_transaction(other)
                except NoText:
                    continue
                read += 1
                self.assertEqual(show_transaction(found), other)
            self.assertGreater(read, 3)
            for sign in " :;":
                for other in [text[:at] + sign + text[at:] for at in range(len(text) + 1)]:
                    self.refuses(NoText, [], read_transaction, other)
                for at in [at for at, one in enumerate(text) if one == sign]:
                    self.refuses(NoText, [], read_transaction, text[:at] + text[at + 1 :])

    def test_any_value(self):
        others = [(20, [("take", 2)]), b"20: take 2", ["20: take 2"], "20: take 2\n", "\n20: take 2", "x" * 89000]
        for thing in THINGS + others:
            self.refuses(NoText, [], read_transaction, thing)
        for thing in ["1: " * 20000, "; " * 40000, "1: take 1; " * 8000, "1: effect " + "a" * 89000, " " * 89000]:
            self.refuses(NoText, [], read_transaction, thing)

    def test_what_was_returned_may_be_changed_behind(self):
        read_transaction("1: take 1")[1].clear()
        self.assertEqual(read_transaction("1: take 1"), (1, [("take", 1)]))


class Logs(Case):
    def test_there_and_back(self):
        chance = random.Random(106)
        lengths = set()
        for _ in range(150):
            setting = Setting(lines_by_lot(chance))
            book = Book(setting)
            for now, deeds in transactions_by_lot(chance, 30):
                try:
                    book.do(now, deeds)
                except QueueError:
                    continue
            text = show_log(book)
            wanted = [show_transaction(transaction) for transaction in book.log()]
            self.assertEqual(text, "".join(line + "\n" for line in wanted))
            again = read_log(setting, text)
            self.assertIs(type(again), Book)
            self.assertTrue(again == book)
            self.assertEqual(again.queue().names(), book.queue().names())
            lengths.add(len(book))
            # They were done, so they can be taken back one by one.
            for _ in range(len(book)):
                again.back()
            self.assertEqual(len(again), 0)
        self.assertGreater(len(lengths), 8)

    def test_the_empty_text(self):
        self.assertEqual(show_log(Book(Setting())), "")
        self.assertTrue(read_log(Setting(["hold 3"]), "") == Book(Setting(["hold 3"])))

    def test_the_setting_of_the_book(self):
        book = read_log(Setting(["hold 4"]), "3: put a k 0 0 -; take 1\n")
        self.assertEqual(book.queue().row("a"), ("held", 7, 1, 1, 0))

    def test_the_first_line_that_is_none_or_raises_an_error(self):
        first, second = "5: put a k 0 0 -\n", "6: take 1\n"
        for text, at in [
            ("x\n", 0),
            ("\n", 0),
            ("x", 0),
            (first + "\n", 1),
            ("\n" + first, 0),
            (first + second + "\n", 2),
            (first + "\n" + second, 1),
            (first + first, 1),
            (second + "4: put a k 0 0 -\n", 1),
            (first + second + "6: effect x\n", 2),
            (first + "6: effect x\n" + "nothing\n", 1),
            (first + "nothing\n" + "6: effect x\n", 1),
            (first + second + "7: finish a 2\n" + "8: finish a 1\n", 2),
            (first + " " + second, 1),
            (first.replace("\n", " \n") + second, 0),
            # What stands behind the last line feed is a line that is none.
            (first[:-1], 0),
            (first + second[:-1], 1),
            (first + " ", 1),
            (first + second + "x", 2),
            (first + "x\n" + second[:-1], 1),
            ("5: put a k 0 0 -; \n", 0),
        ]:
            self.refuses(Stopped, [at], read_log, Setting(), text)
        self.assertEqual(len(read_log(Setting(), first + second)), 2)

    def test_a_hundred_and_one_lines(self):
        lines = ["0: put a k 0 0 -\n"] + [f"{now}: follow a\n" for now in range(1, 102)]
        for many in [1, 99, 100]:
            self.assertEqual(len(read_log(Setting(), "".join(lines[:many]))), many)
            self.assertEqual(show_log(read_log(Setting(), "".join(lines[:many]))), "".join(lines[:many]))
        for rest in [lines[100], lines[100] + lines[101], "x", "\n", lines[100][:-1]]:
            self.refuses(Stopped, [100], read_log, Setting(), "".join(lines[:100]) + rest)
        self.refuses(Stopped, [0], read_log, Setting(), "\n" * 89000)

    def test_any_value(self):
        for thing in THINGS + [b"", [], Book(Setting()), ["5: take 1\n"]]:
            if thing != "" or not isinstance(thing, str):
                self.refuses(Stopped, [0], read_log, Setting(), thing)

    def test_show_log_after_late_and_back(self):
        book = Book(Setting())
        book.do(5, [put("a")])
        book.late(3, [put("b", due=4, origin=None)])
        book.do(9, [("take", 2)])
        text = "3: put b k 0 4 -\n5: put a k 0 0 -\n"
        self.assertEqual(show_log(book), text + "9: take 2\n")
        book.back()
        self.assertEqual(show_log(book), text)


if __name__ == "__main__":
    unittest.main()
