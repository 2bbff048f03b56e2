"""[100], [101] and [12]: how many effects rows have in the end, and chains of queues."""

import copy
import itertools
import random
import unittest

from rowqueue.chains import Ends, ends
from rowqueue.errors import TooMany, Wrong
from rowqueue.machine import is_weaving, play
from rowqueue.scenes import Scene
from rowqueue.settings import Setting
from tests.anything import THINGS
from tests.cases import Case, oracle_of, scene_of
from tests.samples import ACCIDENTS, lines_by_lot
from tests.search import Large, small_scenes

GREAT = 10**18
SETS = [[number for number in range(3) if bits >> number & 1] for bits in range(8)]


def is_quiet(state, rows):
    """[100], for one state."""
    if any(state[0][r][0] not in ("done", "dead") for r in rows):
        return False
    return not any(hand and hand[1] in rows for hand in state[1])


def ends_there(search, rows):
    found = {}
    for state, weaving in search.weavings.items():
        if is_quiet(state, rows):
            found.setdefault(min(sum(state[0][r][3] for r in rows), 2), weaving)
    return sorted(found.items())


def choices_of(scene):
    rows = range(len(scene.rows()))
    return [list(some) for many in rows for some in itertools.combinations(rows, many + 1)]


def product_there(one, other):
    """[101] by sums of up to six numbers."""
    found = set()
    for k in one:
        for many in [k] if k < 2 else range(2, 7):
            found |= {min(sum(some), 2) for some in itertools.product(other, repeat=many)}
    return sorted(found)


class EndsOfRows(Case):
    def test_beside_a_search(self):
        told = {0: 0, 1: 0, 2: 0, 3: 0, "several": 0}
        for scene, search in small_scenes(61, 250) + small_scenes(100, 60, 250, 3):
            for rows in choices_of(scene):
                given = list(rows)
                wanted = ends_there(search, rows)
                told[len(wanted)] += 1
                told["several"] += len(rows) > 1 and len(wanted) > 1
                found = ends(scene, rows)
                self.assertEqual(found, wanted, (scene.setting, scene.rows(), rows))
                self.assertEqual(rows, given)
                for number, weaving in found:
                    self.assertIs(is_weaving(scene, weaving), True)
                    state, _ = play(scene, weaving)
                    self.assertTrue(is_quiet(state, rows))
                    self.assertEqual(min(sum(state[0][r][3] for r in rows), 2), number)
                many = len(search.weavings)
                self.assertEqual(ends(scene, rows, most=many), wanted)
                if many > 1:
                    self.too_many(many - 1, ends, scene, rows)
        self.assertGreater(min(told.values()), 15, told)

    def test_done_and_dead(self):
        part, tick = ("part", 0), ("tick",)
        dead = [part, ("crash", 0), tick, tick]
        self.assertEqual(ends(scene_of("tries 1", may=("crash",)), [0]), [(0, dead), (1, [part] * 3)])
        # A dead row whose worker has it still is not quiet, and it has its effect all the same.
        self.assertEqual(ends(scene_of("tries 1"), [0]), [(1, [part] * 3)])
        # Two stand for all numbers above.
        twice = [part, part, tick, tick, part, part, part, part]
        self.assertEqual(ends(scene_of(), [0]), [(1, [part] * 3), (2, twice)])
        self.assertEqual(ends(scene_of("hold ever", may=("crash",)), [0]), [(1, [part] * 3)])
        self.assertEqual(ends(scene_of("tries 1", rows=[("a", 0, "late")]), [0]), [(1, [("put", 0)] + [part] * 3)])

    def test_other_rows_do_not_matter(self):
        scene = scene_of("hold ever", rows=[("a", 0, "here"), ("b", 0, "here"), ("c", 0, 0)], workers=1)
        three = [("part", 0)] * 3
        self.assertEqual(ends(scene, [0]), [(1, three)])
        self.assertEqual(ends(scene, [1]), [(1, three * 2)])
        self.assertEqual(ends(scene, [0, 1]), [(2, three * 2)])
        # A row that has not come is neither done nor dead.
        self.assertEqual([ends(scene, [2]), ends(scene, [0, 2]), ends(scene, [0, 1, 2])], [[], [], []])

    def test_most_is_1000_if_it_is_left_out(self):
        great = scene_of("hold 3", "once 3", workers=3)
        self.refuses(TooMany, [1000], ends, great, [0])
        self.too_many(1629, ends, great, [0])
        self.assertEqual([number for number, _ in ends(great, [0], most=1630)], [1, 2])

    def test_answers_are_the_callers(self):
        scene = scene_of(workers=2)
        first = ends(scene, [0])
        before = copy.deepcopy(first)
        for _, weaving in first:
            weaving.clear()
        first.clear()
        self.assertEqual(ends(scene, [0]), before)


class Sets(Case):
    def test_numbers(self):
        for numbers in SETS:
            given = list(numbers)
            one = Ends(given)
            self.assertEqual(one.numbers(), numbers)
            given.append(7)
            one.numbers().append(8)
            self.assertEqual(one.numbers(), numbers)
            self.assertIs(type(one.numbers()), list)
            self.assertEqual(repr(one), f"Ends({numbers})")

    def test_wrong(self):
        others = [[3], [-1], [0, 0], [1, 0], [0, 2, 1], [0, 1, 2, 2], [0, 1, 2, 3], [True], [False], [0, True]]
        others += [(), (0,), (0, 1, 2), {0}, {0: 1}, "0", "", b"\x00", b"", 0, 1, None, ["0"], [None], [[0]], [(0,)]]
        others += [[0, 1, None], [10**50], [0, 10**50], [0, True, 2], range(3), Ends([0]), [Ends([0])]]
        others += [[0, 1, 2] * 29000, [0] * 89000]
        for thing in others + [thing for thing in THINGS if repr(thing) not in ("[]", "[0]")]:
            self.refuses(Wrong, [0], Ends, thing)

    def test_what_is_handed_in_stays(self):
        for thing in [[0, 1, 2], [2, 1], [[0]], []]:
            given = copy.deepcopy(thing)
            try:
                Ends(thing)
            except Wrong:
                pass
            self.assertEqual(thing, given)

    def test_equal(self):
        for one, other in itertools.product(SETS, repeat=2):
            self.assertIs(Ends(one) == Ends(other), one == other)
            self.assertIs(Ends(one) != Ends(other), one != other)
        for numbers in SETS:
            for thing in [numbers, tuple(numbers), set(numbers), f"Ends({numbers})", None, 0, True, Setting(), len]:
                self.assertFalse(Ends(numbers) == thing)
                self.assertFalse(thing == Ends(numbers))
                self.assertTrue(Ends(numbers) != thing)

    def test_in(self):
        for numbers in SETS:
            for thing in [0, 1, 2, 3, -1, 10**50]:
                self.assertIs(thing in Ends(numbers), thing in numbers)
            for thing in THINGS + [True, False, "1", (1,), [1], {1}, Ends([1]), Ends(numbers), None]:
                if not (isinstance(thing, int) and not isinstance(thing, bool)):
                    self.assertIs(thing in Ends(numbers), False)

    def test_the_product_beside_sums(self):
        for one, other in itertools.product(SETS, repeat=2):
            first, second = Ends(one), Ends(other)
            self.assertEqual((first * second).numbers(), product_there(one, other), (one, other))
            self.assertIs(type(first * second), Ends)
            self.assertEqual([first.numbers(), second.numbers()], [one, other])

    def test_some_products(self):
        for one, other, wanted in [
            ([], [0, 1, 2], []),
            ([0], [], [0]),
            ([1], [], []),
            ([2], [], []),
            ([0, 1, 2], [], [0]),
            ([2], [0], [0]),
            ([2], [1], [2]),
            ([2], [0, 1], [0, 1, 2]),
            ([2], [0, 2], [0, 2]),
            ([2], [1, 2], [2]),
            ([1], [0, 2], [0, 2]),
            ([0, 1], [1], [0, 1]),
            ([1, 2], [1], [1, 2]),
        ]:
            self.assertEqual((Ends(one) * Ends(other)).numbers(), wanted)

    def test_repeated(self):
        for numbers in SETS:
            one, product = Ends(numbers), Ends([1])
            for k in range(12):
                self.assertTrue(one.repeated(k) == product)
                self.assertIs(type(one.repeated(k)), Ends)
                # The products may be put together in any order.
                self.assertTrue(product * one == one * product)
                product = product * one
            # As many as there is no time for are put together of halves.
            power = one
            for _ in range(59):
                power = power * power
            self.assertTrue(one.repeated(2**59) == power)
            self.assertTrue(one.repeated(GREAT) == one.repeated(GREAT // 2) * one.repeated(GREAT // 2))
            self.assertTrue(one.repeated(GREAT) == one.repeated(GREAT - 1) * one)
            self.assertEqual(one.numbers(), numbers)

    def test_kept(self):
        wanted = [[], [0], [1], [0, 1], [1], [0, 1], [1], [0, 1]]
        self.assertEqual([Ends(numbers).kept().numbers() for numbers in SETS], wanted)
        for numbers in SETS:
            one = Ends(numbers)
            self.assertIs(type(one.kept()), Ends)
            self.assertTrue(one.kept().kept() == one.kept())
            self.assertEqual(one.numbers(), numbers)


def settings_by_lot(chance):
    """Lines and accidents of scenes that have few states."""
    lines = [line for line in lines_by_lot(chance) if not line.startswith(("hold", "pause", "once", "tries"))]
    lines += [f"hold {chance.choice(['1', '1', '2', 'ever', 'link'])}", f"tries {chance.choice(['1', '1', '2'])}"]
    return lines, tuple(word for word in ACCIDENTS if chance.random() < 0.3)


class Chains(unittest.TestCase):
    def test_several_rows_of_one_queue(self):
        """The words in parentheses of [101]."""
        chance = random.Random(101)
        seen = []
        while len(seen) < 120:
            lines = [line for line in lines_by_lot(chance) if line.split(" ")[0] not in ("order", "skip", "once")]
            lines += [f"order {chance.choice(['oldest', 'weight'])}", f"once {chance.choice(['no', 'ever'])}"]
            may = tuple(word for word in ACCIDENTS if chance.random() < 0.5)
            workers, many = chance.randint(1, 2), chance.choice([2, 2, 2, 3])
            rows = [(chance.choice("ab"), 4, "here") for _ in range(many)]
            try:
                alone = ends(scene_of(*lines, workers=workers, may=may), [0], most=2000)
                several = ends(scene_of(*lines, rows=rows, workers=workers, may=may), list(range(many)), most=2000)
            except TooMany:
                continue
            one = Ends([number for number, _ in alone])
            found = Ends([number for number, _ in several])
            self.assertTrue(found == Ends([2]) * one, (lines, may, workers, rows, found, one))
            seen.append(tuple(one.numbers()))
        self.assertGreater(len(set(seen)), 4)

    def test_a_chain_of_two_queues(self):
        """[12], by a search over both queues, in which each effect of the first one puts a row into the second one."""
        chance = random.Random(12)
        told = {}
        while sum(told.values()) < 150:
            scenes = []
            for origins in [["here"], ["late"] * 3]:
                lines, may = settings_by_lot(chance)
                rows = [(name, 0, origin) for name, origin in zip("abc", origins)]
                scenes.append(Scene(Setting(lines), rows, workers=1, may=may))
            one = Scene(scenes[1].setting, [("a", 0, "here")], workers=1, may=scenes[1].may)
            try:
                joint = self.joint_ends(scenes, 3000)
            except Large:
                continue
            first, second = [Ends([number for number, _ in ends(scene, [0])]) for scene in (scenes[0], one)]
            self.assertEqual((first * second).numbers(), joint, (scenes[0].setting, scenes[1].setting))
            key = (tuple(first.numbers()), tuple(second.numbers()))
            told[key] = told.get(key, 0) + 1
        self.assertGreater(len(told), 8, told)

    def joint_ends(self, scenes, limit):
        oracles = [oracle_of(scene) for scene in scenes]
        # The rows of the second queue come only by the effects of the first one.
        deeds = [scenes[0].deeds(), [deed for deed in scenes[1].deeds() if deed[0] != "put"]]
        first = (oracles[0].start(), oracles[1].start(), 0)
        found, waiting, sums = {first}, [first], set()
        while waiting:
            one, other, come = waiting.pop()
            come_ones = list(range(come))
            if is_quiet(one, [0]) and is_quiet(other, come_ones):
                sums.add(min(sum(other[0][r][3] for r in come_ones), 2))
            after = []
            for deed in deeds[0]:
                state, answer = oracles[0].step(one, deed)
                if "effect 0" in answer:
                    if come == 3:
                        raise Large()
                    after.append((state, oracles[1].step(other, ("put", come))[0], come + 1))
                else:
                    after.append((state, other, come))
            after += [(one, oracles[1].step(other, deed)[0], come) for deed in deeds[1]]
            for joint in after:
                if joint not in found:
                    if len(found) == limit:
                        raise Large()
                    found.add(joint)
                    waiting.append(joint)
        return sorted(sums)


if __name__ == "__main__":
    unittest.main()
