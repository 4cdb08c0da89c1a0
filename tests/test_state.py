"""Point 7: op and state."""

import unittest

from tests.helper import BEGIN, STATE, last, told

GREATEST = 4294967295


class Op(unittest.TestCase):
    def test_each_kind(self):
        self.assertEqual(last(("read", 7, 3, 4), ("op", 0)), [0, 0, 7, 3, 4])
        self.assertEqual(last(("write", 7, 3, 4), ("op", 0)), [0, 1, 7, 3, 4])
        self.assertEqual(last(("open_write", 7, 3), ("op", 0)), [0, 2, 7, 3, 0])

    def test_at_the_edges(self):
        self.assertEqual(last(("read", 0, 1, 1000000), ("op", 0)), [0, 0, 0, 1, 1000000])
        self.assertEqual(last(("write", 40, 1000000, 1000000), ("op", 0)), [0, 1, 40, 1000000, 1000000])
        self.assertEqual(last(("open_write", 40, 1000000), ("op", 0)), [0, 2, 40, 1000000, 0])

    def test_an_open_writing_that_somebody_read(self):
        self.assertEqual(last(("open_write", 7, 3), ("read", 7, 4, 5), ("op", 0)), [0, 2, 7, 3, 0])

    def test_one_that_has_ended(self):
        self.assertEqual(last(("open_write", 7, 3), ("ended", 0, 9), ("op", 0)), [0, 1, 7, 3, 9])

    def test_none_such(self):
        for number in (0, 1, GREATEST):
            self.assertEqual(last(("op", number)), [-2], number)
        for number in (1, 2, 24, GREATEST):
            self.assertEqual(last(("read", 0, 1, 2), ("op", number)), [-2], number)

    def test_numbers_follow_an_out(self):
        rows = told(("write", 1, 1, 2), ("write", 2, 3, 4), ("read", 1, 5, 6), ("out", 1), ("op", 1), ("op", 2))
        self.assertEqual(rows[3:], [[2], [0, 0, 1, 5, 6], [-2]])

    def test_the_24th(self):
        calls = [("read", number, number + 1, number + 2) for number in range(24)]
        self.assertEqual(told(*calls, ("op", 23), ("op", 24))[24:], [[0, 0, 23, 24, 25], [-2]])


class State(unittest.TestCase):
    def test_nobody(self):
        self.assertEqual(last(STATE), [0])

    def test_four_for_each(self):
        calls = [("write", 9, 3, 4), ("open_write", 2, 1), ("read", 0, 7, 7), ("read", 5, 1, 1000000)]
        self.assertEqual(last(*calls, STATE), [4, 1, 9, 3, 4, 2, 2, 1, 0, 0, 0, 7, 7, 0, 5, 1, 1000000])

    def test_as_each_call_leaves_it(self):
        rows = told(("open_write", 2, 1), STATE, ("ended", 0, 6), STATE, ("read", 2, 3, 8), STATE, ("cut", 5), STATE,
                    ("out", 0), STATE, ("read", 1, 2, 3), STATE, BEGIN, STATE)
        self.assertEqual(rows[1::2], [[1, 2, 2, 1, 0], [1, 1, 2, 1, 6], [2, 1, 2, 1, 6, 0, 2, 3, 8], [1, 2, 2, 1, 0],
                                      [0], [1, 0, 1, 2, 3], [0]])

    def test_24(self):
        calls = [("read", 40 - number, number + 1, number + 2) for number in range(24)]
        right = [24]
        for number in range(24):
            right.extend([0, 40 - number, number + 1, number + 2])
        self.assertEqual(last(*calls, STATE), right)

    def test_as_op_tells_them(self):
        calls = [("write", 9, 3, 4), ("open_write", 2, 1), ("read", 0, 7, 7)]
        rows = told(*calls, STATE, ("op", 0), ("op", 1), ("op", 2))
        self.assertEqual(rows[3], [3] + rows[4][1:] + rows[5][1:] + rows[6][1:])


if __name__ == "__main__":
    unittest.main()
