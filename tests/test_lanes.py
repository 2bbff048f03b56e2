"""[94] and [95]: rows that one worker serves in the order in which they come."""

import copy
import random
import unittest

from rowqueue.lanes import Lane, total, wait_of
from rowqueue.settings import Setting

GREAT = 10**18


def waits(rows, many, initial=0):
    """The waits of so many rows, one by one, and that of the row that comes next."""
    found = [initial]
    for at in range(many):
        service, gap = rows[at % len(rows)]
        found.append(max(0, found[-1] + service - gap))
    return found


def row_by_lot(chance, great=5):
    kind = chance.randrange(6)
    if kind == 0:
        return 0, chance.choice([0, 1, great])
    if kind == 1:
        return chance.choice([0, 1, great]), 0
    if kind == 2:
        return (chance.randint(0, great),) * 2
    return chance.randint(0, great), chance.randint(0, great)


def rows_by_lot(chance, most=6, great=5):
    return [row_by_lot(chance, great) for _ in range(chance.randint(1, most))]


class Lanes(unittest.TestCase):
    def test_a_call_beside_waits_row_by_row(self):
        chance = random.Random(94)
        for great in [1, 5, 10**6, GREAT]:
            for _ in range(400):
                rows = rows_by_lot(chance, 8, great)
                lane = Lane(*rows)
                for wait in [0, 1, 2, great, 3 * great, chance.randint(0, 9 * great), GREAT, 10**40]:
                    self.assertEqual(lane(wait), waits(rows, len(rows), wait)[-1])
                self.assertEqual(lane.least, waits(rows, len(rows))[-1])
                self.assertEqual(lane.drift, sum(service - gap for service, gap in rows))
                self.assertEqual(lane.drift, lane(10**40) - 10**40)

    def test_no_row(self):
        lane = Lane()
        self.assertEqual([lane.least, lane.drift, lane(0), lane(7), lane(GREAT)], [0, 0, 0, 7, GREAT])
        self.assertEqual(repr(lane), "Lane(0, 0)")

    def test_one_row(self):
        for service, gap in [(0, 0), (3, 2), (2, 3), (GREAT, 0), (0, GREAT), (GREAT, GREAT)]:
            lane = Lane((service, gap))
            self.assertEqual([lane.least, lane.drift], [max(0, service - gap), service - gap])
            for wait in [0, 1, GREAT]:
                self.assertEqual(lane(wait), max(0, wait + service - gap))

    def test_400_rows(self):
        chance = random.Random(400)
        rows = [row_by_lot(chance, GREAT) for _ in range(400)]
        for wait in [0, 5, GREAT, 400 * GREAT]:
            self.assertEqual(Lane(*rows)(wait), waits(rows, 400, wait)[-1])
        self.assertEqual(Lane(*[(GREAT, 0)] * 400).least, 400 * GREAT)
        self.assertEqual(Lane(*[(0, GREAT)] * 400).drift, -400 * GREAT)

    def test_the_product_in_both_orders(self):
        chance = random.Random(95)
        unlike = 0
        for _ in range(800):
            great = chance.choice([1, 5, GREAT])
            rows, others = rows_by_lot(chance, 4, great), rows_by_lot(chance, 4, great)
            one, other = Lane(*rows), Lane(*others)
            for product, both in [(one * other, rows + others), (other * one, others + rows)]:
                self.assertIs(type(product), Lane)
                self.assertTrue(product == Lane(*both))
                for wait in [0, 1, 3, great, 10 * great]:
                    self.assertEqual(product(wait), waits(both, len(both), wait)[-1])
            unlike += one * other != other * one
            self.assertTrue(one * Lane() == one and Lane() * one == one)
            self.assertTrue((one * other) * one == one * (other * one))
            # Neither of them has changed.
            self.assertTrue(one == Lane(*rows) and other == Lane(*others))
        self.assertGreater(unlike, 200)

    def test_repeated(self):
        chance = random.Random(96)
        for _ in range(500):
            rows = rows_by_lot(chance, 4, chance.choice([1, 5, GREAT]))
            lane = Lane(*rows)
            product = Lane()
            for times in range(9):
                self.assertTrue(lane.repeated(times) == product)
                self.assertTrue(lane.repeated(times) == Lane(*rows * times))
                product = product * lane
            self.assertTrue(lane == Lane(*rows))

    def test_repeated_many_times(self):
        for rows, least, drift in [
            ([(3, 2)], GREAT, GREAT),
            ([(2, 3)], 0, -GREAT),
            ([(5, 5)], 0, 0),
            ([(1, 4), (3, 2)], 1, -2 * GREAT),
            ([(3, 2), (1, 4)], 0, -2 * GREAT),
            ([(1, 4), (5, 2)], 3, 0),
            ([(1, 4), (6, 1)], 5 + 2 * (GREAT - 1), 2 * GREAT),
            ([(GREAT, 0)], GREAT * GREAT, GREAT * GREAT),
        ]:
            lane = Lane(*rows).repeated(GREAT)
            self.assertEqual([lane.least, lane.drift], [least, drift])
            half = Lane(*rows).repeated(GREAT // 2)
            self.assertTrue(half * half == lane)
            self.assertTrue(Lane(*rows).repeated(GREAT - 1) * Lane(*rows) == lane)
        self.assertTrue(Lane().repeated(GREAT) == Lane())

    def test_equal(self):
        for one, other in [
            ([(3, 2)], [(4, 3)]),
            ([(3, 2)], [(1, 0), (5, 5)]),
            ([], [(0, 0)]),
            ([], [(7, 7)]),
            ([(1, 4), (3, 2)], [(0, 3), (1, 0)]),
        ]:
            self.assertTrue(Lane(*one) == Lane(*other))
            self.assertFalse(Lane(*one) != Lane(*other))
        for one, other in [([(3, 2)], [(2, 3)]), ([(1, 4), (3, 2)], [(3, 2), (1, 4)]), ([], [(0, 1)]), ([], [(1, 0)])]:
            self.assertFalse(Lane(*one) == Lane(*other))
            self.assertTrue(Lane(*one) != Lane(*other))

    def test_equal_to_nothing_else(self):
        lane = Lane()
        for thing in [None, 0, (0, 0), [0, 0], "Lane(0, 0)", Setting(), len, {}, True, (), ((0, 0),)]:
            self.assertFalse(lane == thing)
            self.assertFalse(thing == lane)
            self.assertTrue(lane != thing)

    def test_repr_and_str(self):
        texts = ["Lane(1, 1)", f"Lane(0, -{GREAT})", "Lane(3, 3)", "Lane(0, 0)"]
        for rows, text in zip([[(3, 2)], [(0, GREAT)], [(5, 0), (0, 2)], []], texts):
            self.assertEqual([repr(Lane(*rows)), str(Lane(*rows))], [text, text])
            self.assertEqual(f"{[Lane(*rows)]}", f"[{text}]")

    def test_other_calls_change_nothing(self):
        lane = Lane((3, 2), (1, 4), (9, 1))
        before = [repr(lane), lane(3), lane.least, lane.drift]
        lane.repeated(9)(4)
        (lane * lane)(4)
        self.assertEqual([repr(lane), lane(3), lane.least, lane.drift], before)


class Waits(unittest.TestCase):
    def test_wait_of_beside_waits_row_by_row(self):
        chance = random.Random(97)
        for _ in range(500):
            great = chance.choice([1, 5, GREAT])
            rows = rows_by_lot(chance, 5, great)
            given = copy.deepcopy(rows)
            for initial in [0, 1, chance.randint(0, 9 * great), GREAT]:
                wanted = waits(rows, 25, initial)
                for number in range(25):
                    self.assertEqual(wait_of(rows, number, initial=initial), wanted[number])
            self.assertEqual([wait_of(rows, number) for number in range(25)], waits(rows, 24))
            self.assertEqual(rows, given)

    def test_wait_of_great_numbers(self):
        number = 10**21
        self.assertEqual(wait_of([(3, 2)], number), number)
        self.assertEqual(wait_of([(3, 2)], number, initial=GREAT), number + GREAT)
        self.assertEqual(wait_of([(2, 3)], number, initial=GREAT), 0)
        self.assertEqual(wait_of([(2, 3)], GREAT - 7, initial=GREAT), 7)
        self.assertEqual(wait_of([(4, 4)], number, initial=GREAT), GREAT)
        self.assertEqual(wait_of([(GREAT, 0)], number, initial=GREAT), GREAT * (number + 1))
        self.assertEqual([wait_of([(1, 4), (3, 2)], number + k) for k in (-1, 0)], [0, 1])
        rows = [(4, 2), (1, 2), (0, 0)]
        self.assertEqual(wait_of(rows, 10**21), (10**21 - 1) // 3 + 2)
        rows = [(0, GREAT)] * 399 + [(GREAT, 0)]
        self.assertEqual([wait_of(rows, 10**21), wait_of(rows, 10**21 - 1)], [GREAT, 0])

    def test_the_words_of_the_example(self):
        rows = [(1, 4), (3, 2)]
        self.assertEqual([wait_of(rows, number) for number in range(7)], [0, 0, 1, 0, 1, 0, 1])
        self.assertEqual(total(rows, GREAT), GREAT - 1)

    def test_total_beside_waits_row_by_row(self):
        chance = random.Random(98)
        for _ in range(700):
            great = chance.choice([1, 3, 5, GREAT])
            rows = rows_by_lot(chance, 5, great)
            given = copy.deepcopy(rows)
            for initial in [0, 1, 7, chance.randint(0, 9 * great), GREAT]:
                wanted = waits(rows, 12 * len(rows), initial)
                for times in [1, 2, 3, 4, 7, 12]:
                    self.assertEqual(total(rows, times, initial=initial), sum(wanted[: times * len(rows)]))
            self.assertEqual(total(rows, 9), sum(waits(rows, 9 * len(rows))[:-1]))
            self.assertEqual(rows, given)

    def test_total_of_a_long_way_down(self):
        """A great wait becomes less and less, until the rows wait as little as they can."""
        chance = random.Random(99)
        for _ in range(60):
            rows = rows_by_lot(chance, 3)
            for initial in [50, 99, 400]:
                wanted = waits(rows, 500 * len(rows), initial)
                for times in [1, 30, 100, 133, 134, 200, 500]:
                    self.assertEqual(total(rows, times, initial=initial), sum(wanted[: times * len(rows)]))

    def test_total_of_many_times(self):
        self.assertEqual(total([(3, 2)], GREAT), GREAT * (GREAT - 1) // 2)
        self.assertEqual(total([(3, 2)], GREAT, initial=9), GREAT * (GREAT - 1) // 2 + 9 * GREAT)
        self.assertEqual(total([(2, 3)], GREAT, initial=GREAT), GREAT * (GREAT + 1) // 2)
        self.assertEqual(total([(2, 3)], 10**9, initial=GREAT), 10**9 * GREAT - 10**9 * (10**9 - 1) // 2)
        self.assertEqual(total([(0, 0)], GREAT, initial=GREAT), GREAT * GREAT)
        self.assertEqual(total([(0, GREAT)], GREAT, initial=GREAT), GREAT)
        self.assertEqual(total([(GREAT, GREAT)], 1, initial=4), 4)

    def test_total_of_two_halves(self):
        """The second half begins with the wait behind the first one."""
        chance = random.Random(100)
        for _ in range(200):
            rows = rows_by_lot(chance, 6, chance.choice([3, GREAT]))
            initial, times = chance.randint(0, GREAT), chance.randint(2, GREAT)
            half = chance.randint(1, times - 1)
            # An initial wait may be greater than those that are passed in.
            later = wait_of(rows, half * len(rows), initial=initial)
            halves = total(rows, half, initial=initial) + total(rows, times - half, initial=later)
            self.assertEqual(total(rows, times, initial=initial), halves)

    def test_400_rows(self):
        chance = random.Random(101)
        rows = [row_by_lot(chance, GREAT) for _ in range(400)]
        wanted = waits(rows, 2000, 12345)
        self.assertEqual(total(rows, 5, initial=12345), sum(wanted[:2000]))
        self.assertEqual(wait_of(rows, 1999, initial=12345), wanted[1999])


if __name__ == "__main__":
    unittest.main()
