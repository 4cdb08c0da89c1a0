"""What holds a, b and c, on many small drawn inputs."""

import itertools
import random
import unittest

from tests.helper import (
    KEPT, MOMENTS, ORDER, WHY, as_calls, counting, drawn, drawn_true, order_faults, right_order, right_why,
    right_zone, some_order_explains, told,
)

SMALL = drawn(1, 3000)
CROWDED = drawn(2, 600, most=10, values=5, times=12)
TRUE = drawn_true(3, 400)


def explained_by_a_permutation(operations):
    return any(not order_faults(operations, list(order))
               for order in itertools.permutations(counting(operations)))


class Search(unittest.TestCase):
    """The search that the others lean on, against all orders written out."""

    def test_against_permutations(self):
        for operations in drawn(4, 400, most=5):
            self.assertEqual(some_order_explains(operations), explained_by_a_permutation(operations), operations)


class FoundJustIfSoTold(unittest.TestCase):
    def agrees(self, several):
        seen = {0: 0, 1: 0}
        for operations in several:
            kept = told(*as_calls(operations), KEPT)[-1]
            self.assertEqual(kept, [1 if some_order_explains(operations) else 0], operations)
            seen[kept[0]] += 1
        return seen

    def test_small(self):
        seen = self.agrees(SMALL)
        self.assertGreater(min(seen.values()), 300)

    def test_crowded(self):
        seen = self.agrees(CROWDED)
        self.assertGreater(min(seen.values()), 10)

    def test_what_was_done_in_moments_is_found(self):
        for operations in TRUE:
            self.assertEqual(told(*as_calls(operations), KEPT, WHY)[-2:], [[1], [0]], operations)

    def test_what_was_done_in_moments_but_for_one_reading(self):
        draw = random.Random(5)
        seen = {0: 0, 1: 0}
        for operations in drawn_true(6, 300, most=12, times=25, stretch=3):
            values = [operation[1] for operation in operations] + [0]
            start = draw.randint(1, 25)
            changed = operations + [("read", draw.choice(values), start, draw.randint(start, 25))]
            kept = told(*as_calls(changed), KEPT)[-1]
            self.assertEqual(kept, [1 if some_order_explains(changed) else 0], changed)
            seen[kept[0]] += 1
        self.assertGreater(min(seen.values()), 30)


class OrderIsSuchAOne(unittest.TestCase):
    def test_orders_and_moments(self):
        found = 0
        for operations in SMALL + CROWDED + TRUE:
            order, moments = told(*as_calls(operations), ORDER, MOMENTS)[-2:]
            right = right_order(operations)
            if right is None:
                self.assertEqual([order, moments], [[-22], [-22]], operations)
                continue
            found += 1
            self.assertEqual(order, [len(right)] + right, operations)
            self.assertEqual(order_faults(operations, order[1:]), [], operations)
            self.in_time(operations, order, moments)
        self.assertGreater(found, 900)

    def in_time(self, operations, order, moments):
        self.assertEqual(moments[0], order[0])
        self.assertEqual(len(moments), len(order))
        self.assertEqual(moments[1:], sorted(moments[1:]))
        latest = 0
        for number, moment in zip(order[1:], moments[1:]):
            self.assertLessEqual(operations[number][2], moment)
            self.assertLessEqual(moment, operations[number][3])
            latest = max(latest, operations[number][2])
            self.assertEqual(moment, latest)


class FewCanNotAllBeTrue(unittest.TestCase):
    def test_why_is_as_told(self):
        for operations in SMALL + CROWDED + TRUE:
            self.assertEqual(told(*as_calls(operations), WHY)[-1], right_why(operations), operations)

    def test_those_alone_have_no_moments_either(self):
        seen = {1: 0, 2: 0, 3: 0}
        for operations in SMALL + CROWDED:
            why = told(*as_calls(operations), WHY)[-1]
            if why == [0]:
                continue
            seen[why[0]] += 1
            shown = why[1:]
            self.assertEqual(shown, sorted(set(shown)), operations)
            self.assertLessEqual(len(shown), 6)
            alone = [operations[number] for number in shown]
            self.assertFalse(some_order_explains(alone), operations)
            self.assertEqual(told(*as_calls(alone), KEPT, WHY)[-2:],
                             [[0], [why[0]] + list(range(len(alone)))], operations)
        self.assertGreater(min(seen.values()), 100)


class Zones(unittest.TestCase):
    def test_as_told(self):
        for operations in SMALL[:1000] + CROWDED + TRUE[:100]:
            rows = told(*as_calls(operations), *[("zone", value) for value in range(42)])
            right = [right_zone(operations, value) for value in range(42)]
            self.assertEqual(rows[len(operations):], right, operations)


if __name__ == "__main__":
    unittest.main()
