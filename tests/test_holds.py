"""What holds a, b, c and h, on many small drawn inputs."""

import itertools
import random
import unittest

from tests.helper import (
    BEGIN, GIVEN, KEPT, MOMENTS, ORDER, WHY, as_calls, counting, drawn, drawn_true, order_faults, probe,
    right_order, right_why, right_zone, run, some_order_explains, told,
)

SMALL = drawn(1, 3000)
CROWDED = drawn(2, 600, most=10, values=5, times=12)
TRUE = drawn_true(3, 400)


def explained_by_a_permutation(operations):
    return any(not order_faults(operations, list(order))
               for order in itertools.permutations(counting(operations)))


class Search(unittest.TestCase):
    """The search that the others lean on, against all orders written out."""

    def test_against_permutations(self):
        for operations in drawn(4, 400, most=5):
            self.assertEqual(some_order_explains(operations), explained_by_a_permutation(operations), operations)


class FoundJustIfSoTold(unittest.TestCase):
    def agrees(self, several):
        seen = {0: 0, 1: 0}
        for operations in several:
            kept = told(*as_calls(operations), KEPT)[-1]
            self.assertEqual(kept, [1 if some_order_explains(operations) else 0], operations)
            seen[kept[0]] += 1
        return seen

    def test_small(self):
        seen = self.agrees(SMALL)
        self.assertGreater(min(seen.values()), 300)

    def test_crowded(self):
        seen = self.agrees(CROWDED)
        self.assertGreater(min(seen.values()), 10)

    def test_what_was_done_in_moments_is_found(self):
        for operations in TRUE:
            self.assertEqual(told(*as_calls(operations), KEPT, WHY)[-2:], [[1], [0]], operations)

    def test_what_was_done_in_moments_but_for_one_reading(self):
        draw = random.Random(5)
        seen = {0: 0, 1: 0}
        for operations in drawn_true(6, 300, most=12, times=25, stretch=3):
            values = [operation[1] for operation in operations] + [0]
            start = draw.randint(1, 25)
            changed = operations + [("read", draw.choice(values), start, draw.randint(start, 25))]
            kept = told(*as_calls(changed), KEPT)[-1]
            self.assertEqual(kept, [1 if some_order_explains(changed) else 0], changed)
            seen[kept[0]] += 1
        self.assertGreater(min(seen.values()), 30)


class OrderIsSuchAOne(unittest.TestCase):
    def test_orders_and_moments(self):
        found = 0
        for operations in SMALL + CROWDED + TRUE:
            order, moments = told(*as_calls(operations), ORDER, MOMENTS)[-2:]
            right = right_order(operations)
            if right is None:
                self.assertEqual([order, moments], [[-22], [-22]], operations)
                continue
            found += 1
            self.assertEqual(order, [len(right)] + right, operations)
            self.assertEqual(order_faults(operations, order[1:]), [], operations)
            self.in_time(operations, order, moments)
        self.assertGreater(found, 900)

    def in_time(self, operations, order, moments):
        self.assertEqual(moments[0], order[0])
        self.assertEqual(len(moments), len(order))
        self.assertEqual(moments[1:], sorted(moments[1:]))
        latest = 0
        for number, moment in zip(order[1:], moments[1:]):
            self.assertLessEqual(operations[number][2], moment)
            self.assertLessEqual(moment, operations[number][3])
            latest = max(latest, operations[number][2])
            self.assertEqual(moment, latest)


class FewCanNotAllBeTrue(unittest.TestCase):
    def test_why_is_as_told(self):
        for operations in SMALL + CROWDED + TRUE:
            self.assertEqual(told(*as_calls(operations), WHY)[-1], right_why(operations), operations)

    def test_those_alone_have_no_moments_either(self):
        seen = {1: 0, 2: 0, 3: 0}
        for operations in SMALL + CROWDED:
            why = told(*as_calls(operations), WHY)[-1]
            if why == [0]:
                continue
            seen[why[0]] += 1
            shown = why[1:]
            self.assertEqual(shown, sorted(set(shown)), operations)
            self.assertLessEqual(len(shown), 6)
            alone = [operations[number] for number in shown]
            self.assertFalse(some_order_explains(alone), operations)
            self.assertEqual(told(*as_calls(alone), KEPT, WHY)[-2:],
                             [[0], [why[0]] + list(range(len(alone)))], operations)
        self.assertGreater(min(seen.values()), 100)


class Zones(unittest.TestCase):
    def test_as_told(self):
        for operations in SMALL[:1000] + CROWDED + TRUE[:100]:
            rows = told(*as_calls(operations), *[("zone", value) for value in range(42)])
            right = [right_zone(operations, value) for value in range(42)]
            self.assertEqual(rows[len(operations):], right, operations)


class Lines(unittest.TestCase):
    """Whole lines of calls 0 to 10, against an object kept by the document's words."""

    def draw_call(self, draw):
        name = draw.choice(["write", "open_write", "read", "read", "ended", "out", "kept", "why", "order",
                            "moments", "zone", "write", "open_write", "read", "ended"])
        if draw.randrange(60) == 0:
            name = "begin"
        if name in ("write", "read"):
            return (name, draw.randint(0, 7), draw.randint(0, 9), draw.choice([0, 5, 9, 12, 14, 1000000, 1000001]))
        if name == "open_write":
            return (name, draw.randint(0, 7), draw.choice([0, 1, 4, 6, 9, 12, 1000000, 1000001]))
        if name == "ended":
            return (name, draw.randint(0, 9), draw.choice([0, 3, 6, 9, 12, 1000000, 1000001]))
        if name == "out":
            return (name, draw.randint(0, 50))
        return (name,) + tuple(draw.randint(0, 9) for _ in range(GIVEN[name]))

    def right_answer(self, operations, call):
        name, given = call[0], call[1:]
        if name == "begin":
            operations.clear()
            return [0]
        if name in ("write", "open_write", "read"):
            return self.right_telling(operations, name, given)
        if name in ("ended", "out"):
            return self.right_change(operations, name, given)
        why = right_why(operations)
        if name == "kept":
            return [1 if why == [0] else 0]
        if name == "why":
            return why
        if name == "zone":
            return right_zone(operations, given[0])
        order = right_order(operations)
        if order is None:
            return [-22]
        if name == "order":
            return [len(order)] + order
        starts = [operations[number][2] for number in order]
        return [len(order)] + list(itertools.accumulate(starts, max))

    def right_telling(self, operations, name, given):
        value, start = given[0], given[1]
        end = 1000001 if name == "open_write" else given[2]
        if value not in range(0 if name == "read" else 1, 41) or start not in range(1, 1000001):
            return [-22]
        if name != "open_write" and end not in range(start, 1000001):
            return [-22]
        if name != "read" and any(o[0] != "read" and o[1] == value for o in operations):
            return [-17]
        if len(operations) == 24:
            return [-28]
        operations.append((name, value, start, end))
        return [len(operations) - 1]

    def right_change(self, operations, name, given):
        if given[0] not in range(len(operations)):
            return [-2]
        if name == "out":
            operations.pop(given[0])
            return [len(operations)]
        kind, value, start, _ = operations[given[0]]
        if kind != "open_write":
            return [-16]
        if given[1] not in range(start, 1000001):
            return [-22]
        operations[given[0]] = ("write", value, start, given[1])
        return [0]

    def test_as_told(self):
        draw = random.Random(7)
        seen = {}
        for _ in range(200):
            calls = [self.draw_call(draw) for _ in range(draw.randint(1, 250))]
            operations = []
            right = [self.right_answer(operations, call) for call in [BEGIN] + calls]
            self.assertEqual(run(BEGIN, *calls), right, calls)
            for answer in right:
                seen[min(answer[0], 0)] = True
        self.assertEqual(sorted(seen), [-28, -22, -17, -16, -2, 0])

    def test_what_is_refused_changes_nothing(self):
        draw = random.Random(8)
        for _ in range(200):
            calls = [BEGIN] + [self.draw_call(draw) for _ in range(draw.randint(1, 60))]
            rows = run(*calls)
            taken = [call for call, row in zip(calls, rows) if row[0] >= 0]
            right = [row for row in rows if row[0] >= 0]
            self.assertEqual(run(*taken), right, calls)
            self.assertEqual(run(*calls, *probe())[len(calls):], run(*taken, *probe())[len(taken):], calls)


if __name__ == "__main__":
    unittest.main()
