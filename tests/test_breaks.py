"""Where it usually breaks, row by row: the calls 11 to 21, reckoned by hand."""

import unittest

from tests.helper import BLAME, KEPT, LATE, ORDER, SINCE, STATE, VALUES, WHY, told


class Rows(unittest.TestCase):
    """Asks one thing after another about the same operations, each time told anew."""

    def asks(self, operations, *asked):
        for call, right in asked:
            self.assertEqual(told(*operations, call)[-1], right, call)

    def without(self, operations, *right):
        for number, one in enumerate(right):
            self.assertEqual(told(*operations, ("without", number))[-1], [one], number)

    def cut(self, operations, time, state, *asked):
        rows = told(*operations, ("cut", time), STATE)[-2:]
        self.assertEqual(rows, [[state[0]], state])
        for call, right in asked:
            self.assertEqual(told(*operations, ("cut", time), call)[-1], right, call)


class AtOneTime(Rows):
    def test_ends_and_beginnings(self):
        # 1 ends first at 3 and begins last at 5; 2 ends first at 5 and begins last at 3.
        three = [("write", 1, 1, 3), ("write", 2, 3, 5), ("read", 1, 5, 6)]
        self.asks(three, (("before", 1, 2), [0, 0]), (KEPT, [1]), (LATE, [0]), (BLAME, [0]), (SINCE, [0]),
                  (("sure", 3), [0]), (("sure", 4), [1, 1]), (("sure", 5), [0]),
                  (("could", 3, 3), [3, 0, 1, 2]), (("could", 4, 4), [1, 1]), (("could", 5, 5), [2, 1, 2]))
        self.cut(three, 3, [2, 1, 1, 1, 3, 2, 2, 3, 0])
        self.cut(three, 2, [1, 2, 1, 1, 0])
        self.cut(three, 5, [2, 1, 1, 1, 3, 1, 2, 3, 5])

    def test_one_later(self):
        three = [("write", 1, 1, 2), ("write", 2, 3, 4), ("read", 1, 5, 6)]
        self.asks(three, (("before", 1, 2), [1, 1]), (LATE, [1]), (BLAME, [2, 1, 2]), (SINCE, [6]))

    def test_a_time_like_any_other(self):
        all_at_5 = [("read", 2, 5, 5), ("write", 1, 5, 5), ("read", 0, 5, 5), ("write", 2, 5, 5), ("read", 1, 5, 5)]
        self.asks(all_at_5, (("before", 1, 2), [0, 0]), (LATE, [0]), (BLAME, [0]), (SINCE, [0]),
                  (("sure", 4), [1, 0]), (("sure", 5), [0]), (("could", 5, 5), [3, 0, 1, 2]))
        self.cut(all_at_5, 4, [0])
        self.assertEqual(told(*all_at_5, ("cut", 5))[-1], [5])


class OpenWritings(Rows):
    two = [("open_write", 1, 2), ("open_write", 2, 2), ("read", 1, 4, 5)]

    def test_somebody_read_one_and_nobody_the_other(self):
        self.asks(self.two, (VALUES, [2, 0, 1]), (("before", 0, 1), [1, 0]), (("before", 0, 2), [-2]),
                  (("sure", 3), [0]), (("could", 4, 4), [3, 0, 1, 2]), (("could", 9, 9), [2, 1, 2]),
                  (("op", 0), [0, 2, 1, 2, 0]), (LATE, [0]), (BLAME, [0]), (SINCE, [0]))
        self.without(self.two, 0, 1, 1)
        self.cut(self.two, 4, [2, 2, 1, 2, 0, 2, 2, 2, 0], (VALUES, [1, 0]))
        self.cut(self.two, 5, [3, 2, 1, 2, 0, 2, 2, 2, 0, 0, 1, 4, 5], (VALUES, [2, 0, 1]))

    def test_with_0_read_behind_it(self):
        four = self.two + [("read", 0, 7, 8)]
        self.asks(four, (LATE, [2]), (BLAME, [2, 2, 3]), (SINCE, [8]), (("could", 1, 9), [0]))
        self.without(four, 0, 0, 1, 1)

    def test_with_0_read_behind_that_which_nobody_read(self):
        self.asks([("open_write", 1, 2), ("read", 0, 7, 8)], (LATE, [0]), (BLAME, [0]), (SINCE, [0]),
                  (VALUES, [1, 0]), (("could", 8, 9), [2, 0, 1]), (("could", 1, 5), [1, 0]),
                  (("sure", 6), [1, 0]))


class ZeroReadLate(Rows):
    def test_behind_a_writing(self):
        two = [("write", 1, 3, 4), ("read", 0, 9, 12)]
        self.asks(two, (("before", 0, 1), [1, 1]), (VALUES, [2, 0, 1]), (("sure", 5), [1, 0]), (LATE, [5]),
                  (BLAME, [2, 0, 1]), (SINCE, [12]), (("could", 1, 1), [0]))
        self.without(two, 1, 1)
        self.cut(two, 11, [1, 1, 1, 3, 4], (KEPT, [1]))
        self.cut(two, 12, [2, 1, 1, 3, 4, 0, 0, 9, 12], (KEPT, [0]))

    def test_with_nobody_writing(self):
        self.asks([("read", 0, 1000000, 1000000)], (LATE, [0]), (BLAME, [0]), (SINCE, [0]),
                  (("sure", 999999), [1, 0]), (("sure", 1000000), [0]), (("could", 1, 1), [1, 0]))


class ReadBeforeItWasWritten(Rows):
    def test_too_early(self):
        two = [("write", 1, 5, 6), ("read", 1, 2, 3)]
        self.asks(two, (LATE, [-22]), (BLAME, [1, 1]), (SINCE, [3]), (("before", 0, 1), [1, 0]),
                  (VALUES, [2, 0, 1]), (("sure", 4), [1, 1]), (("could", 5, 6), [0]))
        self.without(two, 0, 1)
        self.cut(two, 2, [0], (KEPT, [1]))
        self.cut(two, 3, [1, 0, 1, 2, 3], (WHY, [1, 0]))
        self.cut(two, 5, [2, 2, 1, 5, 0, 0, 1, 2, 3], (WHY, [2, 0, 1]))

    def test_but_not_ended_before(self):
        two = [("write", 1, 5, 6), ("read", 1, 2, 5)]
        self.asks(two, (LATE, [0]), (BLAME, [0]), (SINCE, [0]), (("could", 1, 4), [1, 0]),
                  (("could", 1, 5), [2, 0, 1]))
        self.cut(two, 4, [0])
        self.cut(two, 5, [2, 2, 1, 5, 0, 0, 1, 2, 5], (KEPT, [1]), (ORDER, [2, 0, 1]))


class TwoClashes(Rows):
    def test_apart(self):
        five = [("write", 1, 1, 2), ("read", 0, 5, 6), ("write", 2, 11, 12), ("write", 3, 13, 14), ("read", 2, 20, 21)]
        self.asks(five, (("before", 0, 1), [1, 1]), (("before", 3, 2), [1, 1]), (("before", 1, 2), [1, 0]),
                  (LATE, [6]), (BLAME, [0]), (SINCE, [6]), (("sure", 3), [1, 0]), (("sure", 15), [1, 2]),
                  (("could", 30, 30), [0]))
        self.without(five, 0, 0, 0, 0, 0)
        self.cut(five, 5, [1, 1, 1, 1, 2], (KEPT, [1]))

    def test_with_one_in_both(self):
        three = [("write", 1, 1, 2), ("write", 2, 1, 4), ("read", 0, 9, 9)]
        self.asks(three, (LATE, [7]), (BLAME, [1, 2]), (SINCE, [9]))
        self.without(three, 0, 0, 1)


class OneOperationHoldsBoth(Rows):
    def test_a_writing(self):
        # 2 ends first at 6 and begins last at 5, by its writing alone.
        three = [("write", 1, 1, 2), ("write", 2, 5, 6), ("read", 1, 9, 10)]
        self.asks(three, (WHY, [3, 0, 1, 2]), (("before", 1, 2), [1, 1]), (LATE, [3]), (BLAME, [2, 1, 2]),
                  (SINCE, [10]), (("sure", 3), [1, 1]), (("sure", 7), [1, 1]), (("could", 1, 20), [0]))
        self.without(three, 0, 1, 1)

    def test_a_reading_of_an_open_writing(self):
        # 2 ends first at 6 and begins last at 4, by its reading alone.
        four = [("write", 1, 1, 2), ("open_write", 2, 1), ("read", 2, 4, 6), ("read", 1, 9, 10)]
        self.asks(four, (WHY, [3, 0, 1, 2, 3]), (LATE, [2]), (BLAME, [2, 2, 3]), (SINCE, [10]))
        self.without(four, 0, 0, 1, 1)


class BeforeAllAndBehindAll(Rows):
    def test_times(self):
        two = [("write", 1, 10, 20), ("read", 1, 30, 40)]
        self.asks(two, (("sure", 0), [0]), (("sure", 5), [0]), (("sure", 25), [1, 1]), (("sure", 50), [0]),
                  (("sure", 1000000), [0]), (("could", 1, 5), [1, 0]), (("could", 50, 60), [1, 1]),
                  (("could", 1000000, 1000000), [1, 1]), (("could", 1, 1), [1, 0]), (SINCE, [0]))
        for time in (0, 1, 9):
            self.cut(two, time, [0], (VALUES, [1, 0]))
        for time in (40, 41, 1000000):
            self.cut(two, time, [2, 1, 1, 10, 20, 0, 1, 30, 40])


class Nobody(Rows):
    def test_each_call(self):
        for operations in ([], [("write", 1, 1, 2), ("out", 0)], [("read", 1, 1, 2), ("begin",)],
                           [("write", 1, 5, 6), ("cut", 4)]):
            self.asks(operations, (("before", 0, 0), [-22]), (("before", 0, 1), [-2]), (("before", 1, 0), [-2]),
                      (LATE, [0]), (("without", 0), [-2]), (BLAME, [0]), (SINCE, [0]), (("cut", 0), [0]),
                      (("cut", 1000000), [0]), (("could", 1, 1), [1, 0]), (("could", 1, 1000000), [1, 0]),
                      (("sure", 0), [0]), (("sure", 1), [0]), (("sure", 1000000), [0]), (("op", 0), [-2]),
                      (VALUES, [1, 0]), (STATE, [0]))


if __name__ == "__main__":
    unittest.main()
