"""[3]: arguments stay as they are, results are new, and the same each time."""

import copy
import unittest

from rowqueue import alike, bounds, chains, changes, coming, copies, forms
from rowqueue import lanes, memory, notation, rounds, safety, seen
from rowqueue.machine import start
from rowqueue.scenes import Scene
from rowqueue.settings import Setting

ROWS = [("a", 0, "here"), ("b", 0, 0)]
LINES = ["hold 1", "tries 2", "plan take effect finish follow"]
SCENE = Scene(Setting(LINES), ROWS, workers=1, prompt=True)
OTHER = Scene(Setting(LINES + ["margin 1"]), ROWS, workers=1, prompt=True)
PLAIN = Scene(Setting(LINES), ROWS, workers=1)
ONE = Scene(Setting(), [("a", 0, "here")])
LOST = Scene(Setting(["hold ever"]), [("a", 0, "here")], workers=1, may=("crash",))
OFFERS = ["once ever", "plan take effect+finish", "once 3"]
TURN = [[], 0, [("tick",)], []]
LOG = [("take 0",), ("effect 0",), ("finish 0",)]
ROUND = [("part", 0), ("tick",)]
TRANSACTION = (7, [("take", 1), ("effect", "a")])


def calls():
    """Tuples of a function and its arguments."""
    states = safety.check(SCENE, "gone")[1]
    breach = safety.check(ONE, "twice")[1]
    found = [(safety.is_bad, ONE, promise, start(ONE)) for promise in ("twice", "two", "order", "gone")]
    found += [(safety.reached, SCENE), (safety.check, SCENE, "gone"), (safety.check, ONE, "two")]
    found += [(safety.is_closed, SCENE, "gone", states), (safety.is_breach, ONE, "twice", breach)]
    found += [(function, ONE, "twice") for function in (forms.shortest, forms.breach)] + [(forms.takes, ONE)]
    numbers = coming.can_come(SCENE, "settled")[1]
    _, weaving, trap = coming.can_come(LOST, "effect")
    found += [(coming.can_come, SCENE, "settled"), (coming.can_come, LOST, "effect")]
    found += [(coming.is_ranked, SCENE, "settled", numbers), (coming.is_trap, LOST, "effect", weaving, trap)]
    for count in [("takes", 0), ("passed", 1), ("waits", 0), ("gap", 0), ("gap", 1)]:
        word, *parts = bounds.at_most(SCENE, count)
        found.append((bounds.at_most, SCENE, count))
        if word == "ever":
            found.append((bounds.is_turn, SCENE, count, *parts))
        else:
            found.append((bounds.is_bounded, SCENE, count, parts[0] if word == "most" else None, parts[-1]))
    found += [(bounds.at_most, ONE, ("waits", 0)), (bounds.is_turn, ONE, ("waits", 0), *TURN)]
    found += [(memory.least_once, SCENE, 0), (alike.deeds_of, SCENE, OTHER), (alike.compare, SCENE, OTHER)]
    found += [(alike.are_pairs, SCENE, OTHER, alike.compare(SCENE, OTHER)[1]), (alike.least, SCENE, SCENE.deeds())]
    found += [(changes.choices, OFFERS), (changes.changed, ONE, OFFERS, [0, 1])]
    answer = changes.least_change(ONE, OFFERS, ["two", "twice"])
    found += [(changes.least_change, ONE, OFFERS, ["two", "twice"])]
    found += [(changes.are_papers, ONE, OFFERS, ["two", "twice"], answer)]
    _, at, sets = seen.possible(SCENE, LOG + [("late",)])
    found += [(seen.possible, SCENE, LOG), (seen.possible, SCENE, LOG + [("late",)]), (seen.count, SCENE, LOG, 9)]
    found += [(seen.numbered, SCENE, LOG, 9, 1), (seen.are_sets, SCENE, LOG + [("late",)], at, sets)]
    found += [(rounds.round_of, SCENE, start(SCENE), ROUND), (rounds.state_after, SCENE, start(SCENE), ROUND, 5)]
    found += [(rounds.answers, SCENE, start(SCENE), ROUND, 5), (chains.ends, SCENE, [0, 1])]
    found += [(lanes.wait_of, [(3, 2), (1, 4)], 7), (lanes.total, [(3, 2), (1, 4)], 7)]
    found += [(look_and_mark,), (notation.show_transaction, TRANSACTION), (notation.read_transaction, "7: take 1")]
    return found


def look_and_mark():
    return copies.check(copies.Reading(PLAIN, True), "gone", most=2000)


def lists_in(thing):
    """All lists in a result, at any depth."""
    if not isinstance(thing, (list, tuple)):
        return []
    inner = [one for item in thing for one in lists_in(item)]
    return [thing, *inner] if isinstance(thing, list) else inner


class Arguments(unittest.TestCase):
    def test_they_stay_and_results_are_the_callers(self):
        told = set()
        for function, *things in calls():
            told.add(function.__name__)
            plain = [thing for thing in things if not isinstance(thing, Scene)]
            before = copy.deepcopy(plain)
            first = function(*things)
            kept = copy.deepcopy(first) if isinstance(first, (list, tuple)) else first
            self.assertEqual(plain, before)
            lists = lists_in(first)
            self.assertEqual(len({id(part) for part in lists}), len(lists), function)
            self.assertFalse({id(part) for part in lists} & {id(part) for part in lists_in(plain)}, function)
            for part in lists:
                part.append("more")
            self.assertEqual(plain, before)
            self.assertTrue(function(*things) == kept, function)
            if isinstance(kept, bool):
                self.assertIs(kept, function.__name__ != "is_bad", function)
        self.assertEqual(len(told), 36)

    def test_scenes_stay(self):
        again = Scene(Setting(LINES), ROWS, workers=1, prompt=True)
        calls()
        self.assertTrue(SCENE == again)
        self.assertEqual(SCENE.deeds(), again.deeds())


if __name__ == "__main__":
    unittest.main()
