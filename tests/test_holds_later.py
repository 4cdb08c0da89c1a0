"""What holds d, e, f and g, on many small drawn inputs."""

import random
import unittest

from tests.helper import (
    BLAME, KEPT, LATE, SINCE, STATE, VALUES, WHY, all_but, as_calls, begun_earlier, drawn, drawn_true, known_at,
    present, right_before, right_blame, right_could, right_late, right_since, right_state, right_sure,
    right_without, some_order_explains, told,
)


def true_but_for_one(seed, how_many):
    """What was done in one moment each, with one more reading, which may go against it."""
    draw = random.Random(seed)
    several = []
    for operations in drawn_true(seed, how_many, most=9, times=12, stretch=3):
        values = [operation[1] for operation in operations] + [0]
        start = draw.randint(1, 12)
        several.append(operations + [("read", draw.choice(values), start, draw.randint(start, 12))])
    return several


def true_but_read_late(seed, how_many):
    """What was done in one moment each, but that some readings are told for later than they were."""
    draw = random.Random(seed)
    several = []
    for operations in drawn_true(seed, how_many, most=9, times=8, stretch=1):
        delayed = []
        for kind, value, start, end in operations:
            delay = draw.randint(0, 5) if kind == "read" else 0
            delayed.append((kind, value, start + delay, end + delay))
        several.append(delayed)
    return several


SMALL = drawn(21, 700)
TIGHT = drawn(22, 300, most=7, values=3, times=4)
NEARLY = true_but_for_one(23, 300)
TRUE = drawn_true(24, 150, most=8, times=10, stretch=3)
READ_LATE = true_but_read_late(25, 500)
ALL = SMALL + TIGHT + NEARLY + TRUE + READ_LATE
TIMES = 12


def asked(operations, calls):
    """What these calls answer, once the operations are told."""
    return told(*as_calls(operations), *calls)[len(operations):]


class OnceItCanNotBe(unittest.TestCase):
    """d: from the time that since tells on, at each time."""

    def test_at_each_time(self):
        early = late = 0
        for operations in ALL:
            since = asked(operations, [SINCE])[0][0]
            self.assertEqual(since == 0, asked(operations, [KEPT]) == [[1]], operations)
            for time in [*range(TIMES + 2), 1000000]:
                right = [1 if since == 0 or time < since else 0]
                self.assertEqual(asked(operations, [("cut", time), KEPT])[1], right, (operations, time))
            early += 0 < since < 4
            late += since >= 4
        self.assertGreater(min(early, late), 100)

    def test_against_the_search(self):
        for operations in SMALL[:250] + NEARLY[:100] + READ_LATE[:100]:
            doubted = [time for time in range(TIMES + 2) if not some_order_explains(known_at(operations, time))]
            self.assertEqual(asked(operations, [SINCE]), [[min(doubted, default=0)]], operations)

    def test_as_told(self):
        for operations in ALL:
            self.assertEqual(asked(operations, [SINCE]), [right_since(operations)], operations)


class Cut(unittest.TestCase):
    def test_just_what_is_known_is_told(self):
        for operations in ALL:
            for time in [*range(0, TIMES + 2, 2), 1000000]:
                known = known_at(operations, time)
                self.assertEqual(asked(operations, [("cut", time), STATE]), [[len(known)], right_state(known)],
                                 (operations, time))

    def test_at_the_last_time_nothing_changes(self):
        for operations in ALL:
            self.assertEqual(asked(operations, [("cut", 1000000), STATE, WHY]),
                             [[len(operations)], right_state(operations)] + asked(operations, [WHY]), operations)


class ReadingsBegunEarlier(unittest.TestCase):
    """e: it's all right just from that amount on."""

    def test_for_each_amount(self):
        seen = {-22: 0, 0: 0, 1: 0}
        for operations in ALL:
            late = asked(operations, [LATE])[0]
            self.assertEqual(len(late), 1)
            if late == [-22]:
                self.assertIn(asked(operations, [WHY])[0][0], (1, 2), operations)
            else:
                for amount in range(TIMES + 2):
                    self.assertEqual(some_order_explains(begun_earlier(operations, amount)), amount >= late[0],
                                     (operations, amount))
            seen[min(late[0], 1)] += 1
        self.assertGreater(min(seen.values()), 200, seen)

    def test_told_so_it_is_kept(self):
        several = [operations for operations in ALL if asked(operations, [LATE])[0][0] > 0]
        self.assertGreater(len(several), 200)
        for operations in several:
            # Everything so much later that no reading comes to begin before time 1.
            later = [(kind, value, start + 20, end if kind == "open_write" else end + 20)
                     for kind, value, start, end in operations]
            late = asked(later, [LATE])[0][0]
            self.assertLess(late, 20)
            for amount in range(20):
                earlier = begun_earlier(later, amount)
                self.assertEqual(asked(earlier, [KEPT]), [[1 if amount >= late else 0]], (later, amount))

    def test_as_told(self):
        for operations in ALL:
            self.assertEqual(asked(operations, [LATE]), [right_late(operations)], operations)


class OneMoreReader(unittest.TestCase):
    """f: what one more reader may be told is just what some order explains."""

    def test_against_the_search(self):
        seen = {}
        for operations in SMALL[:120] + TIGHT[:60] + NEARLY[:60] + TRUE[:60]:
            values = sorted({0} | {operation[1] for operation in operations} | {4, 40})
            pairs = [(start, end) for start in range(1, 8) for end in range(start, 8, 2)]
            rows = asked(operations, [("could", *pair) for pair in pairs])
            for pair, row in zip(pairs, rows):
                right = [value for value in values if some_order_explains(operations + [("read", value, *pair)])]
                self.assertEqual(row, [len(right)] + right, (operations, pair))
                seen[min(row[0], 3)] = True
        self.assertEqual(sorted(seen), [0, 1, 2, 3])

    def test_as_told(self):
        for operations in ALL:
            pairs = [(start, end) for start in range(1, TIMES + 2, 3) for end in range(start, TIMES + 2, 2)]
            self.assertEqual(asked(operations, [("could", *pair) for pair in pairs]),
                             [right_could(operations, *pair) for pair in pairs], operations)

    def test_that_one_is_not_told(self):
        for operations in ALL:
            self.assertEqual(asked(operations, [("could", 2, 5), STATE])[1], right_state(operations), operations)


class OneIsSure(unittest.TestCase):
    """g: at most one is sure at a time, and who reads at that time alone may be told that one only."""

    def test_at_each_time(self):
        seen = 0
        for operations in ALL:
            kept = asked(operations, [KEPT]) == [[1]]
            for time in range(TIMES + 2):
                sure, could = asked(operations, [("sure", time), ("could", max(time, 1), max(time, 1))])
                if kept:
                    self.assertIn(sure[0], (0, 1), (operations, time))
                    if sure[0] == 1:
                        self.assertEqual(could, sure, (operations, time))
                        seen += 1
                else:
                    self.assertEqual(could, [0], (operations, time))
        self.assertGreater(seen, 300)

    def test_as_told(self):
        for operations in ALL:
            self.assertEqual(asked(operations, [("sure", time) for time in range(TIMES + 2)]),
                             [right_sure(operations, time) for time in range(TIMES + 2)], operations)


class WithoutOne(unittest.TestCase):
    def test_against_the_search(self):
        seen = {0: 0, 1: 0}
        for operations in SMALL[:300] + NEARLY[:100] + READ_LATE[:100] + TRUE[:50]:
            found = [number for number in range(len(operations)) if some_order_explains(all_but(operations, number))]
            rows = asked(operations, [("without", number) for number in range(len(operations))])
            self.assertEqual(rows, [[1 if number in found else 0] for number in range(len(operations))], operations)
            if some_order_explains(operations):
                found = []
            self.assertEqual(asked(operations, [BLAME]), [[len(found)] + found], operations)
            seen[min(len(found), 1)] += 1
        self.assertGreater(min(seen.values()), 100, seen)

    def test_as_told(self):
        for operations in ALL:
            self.assertEqual(asked(operations, [BLAME]), [right_blame(operations)], operations)
            numbers = range(len(operations) + 1)
            self.assertEqual(asked(operations, [("without", number) for number in numbers]),
                             [right_without(operations, number) for number in numbers], operations)


class ValuesAndBefore(unittest.TestCase):
    def test_as_told(self):
        for operations in SMALL + TIGHT + TRUE:
            values = present(operations)
            self.assertEqual(asked(operations, [VALUES]), [[len(values)] + values], operations)
            pairs = [(value, other) for value in range(5) for other in range(5)]
            self.assertEqual(asked(operations, [("before", *pair) for pair in pairs]),
                             [right_before(operations, *pair) for pair in pairs], operations)


if __name__ == "__main__":
    unittest.main()
