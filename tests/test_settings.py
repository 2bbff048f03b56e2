"""[22], [23]: settings and their lines."""

import copy
import unittest
import unittest.mock

from rowqueue.errors import BadLine, QueueError, Wrong
from rowqueue.settings import Setting, read_setting
from tests.test_plans import all_plans

DEFAULTS = [
    "order oldest",
    "skip yes",
    "hold 2",
    "margin 0",
    "slow 0",
    "plan take effect finish",
    "fence yes",
    "tries ever",
    "count take",
    "pause 0",
    "dead opens",
    "once no",
]
WORDS = [line.split(" ")[0] for line in DEFAULTS]
VALUES = {
    "order": ["oldest", "weight", "key"],
    "skip": ["yes", "no"],
    "hold": ["1", "2", "3", "4", "ever", "link"],
    "margin": ["0", "1", "2", "3"],
    "slow": ["0", "1", "2"],
    "fence": ["yes", "no"],
    "tries": ["1", "2", "3", "4", "ever"],
    "count": ["take", "fail"],
    "pause": ["0", "1", "2", "3"] + [f"{low} {high}" for low in range(4) for high in range(low, 4)],
    "dead": ["opens", "closes"],
    "once": ["no", "1", "2", "3", "4", "5", "6", "ever"],
}
# Values that no line of the word has: each value of another line that it lacks is added below.
BESIDE = {
    "hold": ["0", "5", "-1", "02", "2.0"],
    "margin": ["4", "-1", "00"],
    "slow": ["3", "-1"],
    "tries": ["0", "5", "01"],
    "pause": ["4", "0 4", "1 0", "3 2", "0 0 0", "0  0", "0,0", "00", "-1", "0 ", " 0"],
    "once": ["0", "7", "06"],
}
PROPERTIES = {"count": "counted"}
OTHERS = [None, True, False, 0, 10**50, b"hold 3", ["hold 3"], ("hold 3",), {"hold": 3}, {}, set(), object()]
HARD = ["plan take check+effect finish", "fence no", "hold 3"]


def every_line():
    for word, values in VALUES.items():
        for value in values:
            yield f"{word} {value}"
    for plan in all_plans():
        yield "plan " + " ".join("+".join(words) for words in plan)


class Bad(unittest.TestCase):
    def refuse(self, wanted, place, call, *things):
        with self.assertRaises(wanted) as caught:
            call(*things)
        self.assertIs(type(caught.exception), wanted)
        self.assertIsInstance(caught.exception, QueueError)
        self.assertEqual(list(vars(caught.exception).values()), [place])
        self.assertIs(type(list(vars(caught.exception).values())[0]), int)


class Lines(Bad):
    def test_defaults(self):
        self.assertEqual(Setting().lines(), DEFAULTS)
        self.assertEqual(Setting([]).lines(), DEFAULTS)
        self.assertEqual(Setting(DEFAULTS).lines(), DEFAULTS)

    def test_every_line(self):
        many = 0
        for line in every_line():
            word = line.split(" ")[0]
            lines = Setting([line]).lines()
            self.assertEqual(lines, [line if other == word else DEFAULTS[WORDS.index(other)] for other in WORDS])
            self.assertEqual(Setting((line,)).lines(), lines)
            self.assertEqual(read_setting(line).lines(), lines)
            self.assertEqual(Setting().changed(line).lines(), lines)
            many += 1
        self.assertEqual(many, sum(len(values) for values in VALUES.values()) + 244)

    def refuse_line(self, line):
        self.refuse(BadLine, 0, Setting, [line])
        self.refuse(BadLine, 1, Setting, ("skip no" if line.startswith("once") else "once 1", line))
        self.refuse(BadLine, 0, Setting().changed, line)
        self.assertIs(line in Setting(), False)

    def test_values_beside(self):
        every = [value for values in VALUES.values() for value in values]
        for word, values in VALUES.items():
            for value in every + BESIDE.get(word, []) + ["", "take effect finish", "x", "Yes", "NO"]:
                if value not in values:
                    self.refuse_line(f"{word} {value}")

    def test_signs_beside(self):
        for line in every_line():
            word, _, value = line.partition(" ")
            for bad in [f"{word}  {value}", f" {line}", f"{line} ", f"{line}\n", f"\n{line}", word + value]:
                self.refuse_line(bad)
            for bad in [word, f"{word} ", f"{word}:{value}", f"{word}\n{value}", f"{word}\t{value}", value]:
                self.refuse_line(bad)
            self.refuse_line(word.capitalize() + " " + value)

    def test_bad_plans(self):
        for value in ["", "take", "effect finish", "take effect  finish", "take effect", "take effect finish take"]:
            self.refuse_line(f"plan {value}")
        self.refuse_line("plan take effect finish check check")

    def test_unknown_words(self):
        for line in ["", " ", "x", "holds 2", "hol 2", "counted take", "2 hold", "hold", "row a", "\n"]:
            self.refuse_line(line)

    def test_what_is_no_text(self):
        for thing in OTHERS:
            self.refuse_line_thing(thing)

    def refuse_line_thing(self, thing):
        self.refuse(BadLine, 0, Setting, [thing])
        self.refuse(BadLine, 2, Setting, ["hold 3", "fence no", thing, "bad"])
        self.refuse(BadLine, 0, Setting().changed, thing)
        self.refuse(BadLine, 1, Setting().changed, "hold 3", thing)
        self.assertIs(thing in Setting(), False)


class Constructor(Bad):
    def test_a_word_twice(self):
        for word, values in VALUES.items():
            first = f"{word} {values[0]}"
            self.refuse(BadLine, 1, Setting, [first, first])
            self.refuse(BadLine, 1, Setting, [first, f"{word} {values[1]}"])
            rest = [line for line in DEFAULTS if not line.startswith(word)]
            self.refuse(BadLine, 11, Setting, [first, *rest[1:], f"{word} {values[1]}"])
        self.refuse(BadLine, 1, Setting, ["plan take effect finish", "plan take effect+finish"])

    def test_the_first_bad_one_counts(self):
        self.refuse(BadLine, 2, Setting, ["hold 3", "fence no", "hold 9", "x"])
        self.refuse(BadLine, 1, Setting, ["hold 3", "hold 3", "x"])
        self.refuse(BadLine, 0, Setting, ["x", "hold 3", "hold 3"])
        # What is bad itself does not count as the first of its word.
        self.refuse(BadLine, 0, Setting, ["hold 9", "hold 3"])

    def test_more_than_twelve_items(self):
        self.assertEqual(Setting(list(reversed(DEFAULTS))), Setting())
        self.refuse(BadLine, 11, Setting, DEFAULTS[:11] + ["hold 2"])
        self.refuse(Wrong, 0, Setting, DEFAULTS + ["hold 2"])
        self.refuse(Wrong, 0, Setting, tuple(DEFAULTS) + ("x",))
        self.refuse(Wrong, 0, Setting, ["x"] * 13)
        self.refuse(Wrong, 0, Setting, ["x"] * 80000)

    def test_what_is_no_list_and_no_tuple(self):
        for thing in [None, True, 0, 3, "hold 3", "", b"", {}, {"hold 3": 1}, set(), object(), Setting()]:
            self.refuse(Wrong, 0, Setting, thing)

    def test_what_was_handed_in_may_be_changed(self):
        lines = ["hold 3", "fence no"]
        setting = Setting(lines)
        self.assertEqual(lines, ["hold 3", "fence no"])
        lines[0] = "hold 4"
        lines.append("bad")
        self.assertEqual([setting.hold, len(setting)], [3, 2])

    def test_what_was_handed_in_stays(self):
        for lines in [["hold 3", "once 2"], ["hold 3", "hold 3"], ["bad", ["x"]], [{"a": [1]}]]:
            before = copy.deepcopy(lines)
            try:
                Setting(lines)
            except BadLine:
                pass
            self.assertEqual(lines, before)


class Properties(Bad):
    def test_each_value(self):
        for line in every_line():
            word, _, value = line.partition(" ")
            if word == "plan":
                continue
            found = getattr(Setting([line]), PROPERTIES.get(word, word))
            if word in ("skip", "fence"):
                self.assertIs(found, value == "yes")
            elif word == "pause":
                self.assertEqual(found, tuple(int(part) for part in value.split(" ")))
                self.assertIs(type(found), tuple)
            elif value.isdigit():
                self.assertEqual(found, int(value))
                self.assertIs(type(found), int)
            else:
                self.assertEqual(found, value)

    def test_defaults(self):
        setting = Setting()
        found = [setting.order, setting.dead, setting.counted, setting.skip, setting.fence, setting.margin]
        self.assertEqual(found, ["oldest", "opens", "take", True, True, 0])
        found = [setting.slow, setting.hold, setting.tries, setting.once, setting.pause]
        self.assertEqual(found, [0, 2, "ever", "no", (0,)])

    def test_each_line_stands_for_itself(self):
        lines = ["order key", "skip no", "hold 4", "margin 3", "slow 2", "plan take effect+finish", "fence no"]
        lines += ["tries 1", "count fail", "pause 1 3", "dead closes", "once 6"]
        setting = Setting(lines[::-1])
        self.assertEqual(setting.lines(), lines)
        found = [setting.order, setting.dead, setting.counted, setting.skip, setting.fence, setting.margin]
        self.assertEqual(found, ["key", "closes", "fail", False, False, 3])
        found = [setting.slow, setting.hold, setting.tries, setting.once, setting.pause]
        self.assertEqual(found, [2, 4, 1, 6, (1, 3)])

    def test_they_are_properties(self):
        for name in ["order", "dead", "counted", "skip", "fence", "margin", "slow", "hold", "tries", "once", "pause"]:
            self.assertIsInstance(vars(Setting)[name], property)
            with self.assertRaises(AttributeError):
                setattr(Setting(), name, 1)

    def test_plan(self):
        for plan in all_plans():
            line = "plan " + " ".join("+".join(words) for words in plan)
            self.assertEqual(Setting([line]).plan(), plan)


class Queries(Bad):
    def test_returned_lists_are_the_callers(self):
        setting = Setting(HARD)
        for call in [setting.lines, setting.plan, lambda: setting.apart(Setting())]:
            first = call()
            before = list(first)
            first.clear()
            self.assertEqual(call(), before)
        self.assertEqual(setting, Setting(HARD))

    def test_changed(self):
        setting = Setting(HARD)
        self.assertEqual(setting.changed(), setting)
        self.assertIsNot(setting.changed().lines(), setting.lines())
        changed = setting.changed("once 2", "fence yes", "hold ever")
        self.assertIs(type(changed), Setting)
        self.assertEqual(changed, Setting(["plan take check+effect finish", "once 2", "hold ever"]))
        self.assertEqual(setting, Setting(HARD))
        self.assertEqual(setting.changed(*DEFAULTS), Setting())
        self.assertEqual(changed.changed("once 3").lines()[-1], "once 3")

    def test_changed_raises(self):
        setting = Setting(HARD)
        self.refuse(BadLine, 0, setting.changed, "hold 9")
        self.refuse(BadLine, 1, setting.changed, "hold 1", "hold 2")
        self.refuse(BadLine, 2, setting.changed, "hold 1", "once 2", ["fence no"], "x")
        self.refuse(BadLine, 0, setting.changed, HARD)
        self.refuse(BadLine, 0, setting.changed, setting)
        self.refuse(BadLine, 12, setting.changed, *DEFAULTS, "hold 2")
        self.refuse(BadLine, 12, setting.changed, *DEFAULTS, "x", "y")
        self.assertEqual(setting, Setting(HARD))

    def test_apart(self):
        one, other = Setting(HARD), Setting(["hold 3", "order key", "once 1"])
        self.assertEqual(one.apart(other), ["order", "plan", "fence", "once"])
        self.assertEqual(other.apart(one), ["order", "plan", "fence", "once"])
        self.assertEqual([one.apart(one), one.apart(Setting(HARD[::-1]))], [[], []])
        self.assertEqual(Setting(["pause 0 0"]).apart(Setting()), ["pause"])
        for at, line in enumerate(DEFAULTS):
            word = WORDS[at]
            value = "take effect+finish" if word == "plan" else [x for x in VALUES[word] if f"{word} {x}" != line][0]
            self.assertEqual(Setting([f"{word} {value}"]).apart(Setting()), [word])
            self.assertEqual(Setting().apart(Setting([f"{word} {value}"])), [word])

    def test_equal(self):
        self.assertIs(Setting(HARD) == Setting(HARD[::-1]), True)
        self.assertIs(Setting(HARD) != Setting(HARD[::-1]), False)
        self.assertIs(Setting(["hold 2"]) == Setting(), True)
        self.assertIs(Setting(["pause 1 1"]) == Setting(["pause 1"]), False)
        for line in every_line():
            self.assertIs(Setting([line]) == Setting(), line in DEFAULTS)
            self.assertIs(Setting() != Setting([line]), line not in DEFAULTS)
        for thing in OTHERS + [DEFAULTS, tuple(DEFAULTS), "", repr(Setting()), unittest.mock.ANY]:
            self.assertIs(Setting() == thing, False)
            self.assertIs(Setting() != thing, True)

    def test_length(self):
        self.assertEqual([len(Setting()), len(Setting(DEFAULTS)), len(Setting(HARD))], [0, 0, 3])
        for line in every_line():
            self.assertEqual(len(Setting([line])), 0 if line in DEFAULTS else 1)

    def test_contains(self):
        for line in every_line():
            self.assertIs(line in Setting(), line in DEFAULTS)
            self.assertIs(line in Setting([line]), True)
        self.assertIs(unittest.mock.ANY in Setting(), False)
        setting = Setting(HARD)
        for line in ["hold", "3", "", "hold 2", "plan take effect finish", "Hold 3", "hold 3\n", "hold 3\nmargin 0"]:
            self.assertIs(line in setting, False)

    def test_repr(self):
        self.assertEqual(repr(Setting()), "Setting([])")
        self.assertEqual(repr(Setting(HARD)), "Setting(['hold 3', 'plan take check+effect finish', 'fence no'])")
        self.assertEqual(str(Setting(["once 2"])), "Setting(['once 2'])")
        for line in every_line():
            self.assertEqual(eval(repr(Setting([line]))), Setting([line]))
            self.assertEqual(repr(Setting([line])), "Setting([])" if line in DEFAULTS else f"Setting([{line!r}])")


class Reading(Bad):
    def test_good_texts(self):
        self.assertEqual(read_setting(""), Setting())
        self.assertEqual(read_setting("hold 3"), Setting(["hold 3"]))
        self.assertEqual(read_setting("\n".join(HARD)), Setting(HARD))
        self.assertEqual(read_setting("\n".join(HARD[::-1])), Setting(HARD))
        self.assertEqual(read_setting("\n".join(DEFAULTS[::-1])), Setting())
        self.assertIs(type(read_setting("")), Setting)

    def test_bad_texts(self):
        self.refuse(BadLine, 0, read_setting, "\n")
        self.refuse(BadLine, 0, read_setting, "\nhold 3")
        self.refuse(BadLine, 1, read_setting, "hold 3\n")
        self.refuse(BadLine, 1, read_setting, "hold 3\n\nonce 2")
        self.refuse(BadLine, 1, read_setting, "hold 3\nhold 3")
        self.refuse(BadLine, 2, read_setting, "hold 3\nonce 2\nhold 4\nx")
        self.refuse(BadLine, 0, read_setting, "hold 3 \nonce 2")
        self.refuse(BadLine, 1, read_setting, "hold 3\n once 2")
        self.refuse(BadLine, 0, read_setting, "hold 3\r\nonce 2")
        self.refuse(BadLine, 0, read_setting, " ")
        self.refuse(BadLine, 12, read_setting, "\n".join(DEFAULTS) + "\n")
        self.refuse(BadLine, 12, read_setting, "\n".join(DEFAULTS + ["hold 2", "x"]))
        self.refuse(BadLine, 5, read_setting, "\n".join(DEFAULTS[:5] + ["hold 2"] * 20))
        self.refuse(BadLine, 0, read_setting, "\n" * 80000)

    def test_what_is_no_text(self):
        for thing in OTHERS + [HARD, tuple(HARD), [], Setting()]:
            self.refuse(BadLine, 0, read_setting, thing)


if __name__ == "__main__":
    unittest.main()
