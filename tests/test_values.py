"""Point 4: before, values, sure."""

import unittest

from tests.helper import VALUES, last, told

GREATEST = 4294967295
CLASH = [("write", 1, 1, 2), ("write", 2, 3, 4), ("read", 1, 5, 6)]


class Before(unittest.TestCase):
    def test_one_must_come_before_the_other(self):
        calls = [("write", 1, 1, 2), ("write", 2, 3, 4)]
        self.assertEqual(told(*calls, ("before", 1, 2), ("before", 2, 1))[2:], [[1, 0], [0, 1]])

    def test_neither(self):
        self.assertEqual(last(("write", 1, 1, 9), ("write", 2, 2, 9), ("before", 1, 2)), [0, 0])

    def test_an_end_and_a_beginning_at_one_time(self):
        self.assertEqual(last(("write", 1, 1, 3), ("write", 2, 3, 4), ("before", 1, 2)), [0, 0])

    def test_each_before_the_other(self):
        self.assertEqual(told(*CLASH, ("before", 1, 2), ("before", 2, 1))[3:], [[1, 1], [1, 1]])

    def test_0_comes_before_all_that_is_written(self):
        calls = [("write", 1, 1, 2), ("write", 40, 1000000, 1000000)]
        self.assertEqual(told(*calls, ("before", 0, 1), ("before", 40, 0))[2:], [[1, 0], [0, 1]])

    def test_0_read_late(self):
        self.assertEqual(last(("write", 1, 1, 2), ("read", 0, 3, 4), ("before", 0, 1)), [1, 1])
        self.assertEqual(last(("write", 1, 1, 2), ("read", 0, 2, 4), ("before", 0, 1)), [1, 0])

    def test_readings_end_and_begin_for_their_value(self):
        calls = [("write", 1, 1, 20), ("read", 1, 2, 3), ("write", 2, 1, 20), ("read", 2, 4, 5)]
        self.assertEqual(last(*calls, ("before", 1, 2)), [1, 0])

    def test_none_such(self):
        for value in (2, 40, 41, GREATEST):
            self.assertEqual(last(("write", 1, 1, 2), ("before", value, 1)), [-2], value)
            self.assertEqual(last(("write", 1, 1, 2), ("before", 1, value)), [-2], value)
            self.assertEqual(last(("write", 1, 1, 2), ("before", 0, value)), [-2], value)

    def test_the_same(self):
        self.assertEqual(last(("write", 1, 1, 2), ("before", 1, 1)), [-22])
        self.assertEqual(last(("before", 0, 0)), [-22])

    def test_none_such_goes_before_the_same(self):
        for value in (2, 41, GREATEST):
            self.assertEqual(last(("write", 1, 1, 2), ("before", value, value)), [-2], value)

    def test_open_writings(self):
        calls = [("open_write", 1, 1), ("open_write", 2, 1), ("read", 1, 3, 4)]
        self.assertEqual(told(*calls, ("before", 1, 0), ("before", 2, 0), ("before", 0, 2), ("before", 2, 2))[3:],
                         [[0, 1], [-2], [-2], [-2]])

    def test_a_value_from_nowhere_is_none_such(self):
        self.assertEqual(last(("read", 1, 2, 3), ("before", 0, 1)), [-2])


class Values(unittest.TestCase):
    def test_nobody(self):
        self.assertEqual(last(VALUES), [1, 0])

    def test_the_least_first(self):
        self.assertEqual(last(("write", 40, 1, 2), ("write", 3, 1, 2), ("write", 5, 1, 2), VALUES), [4, 0, 3, 5, 40])

    def test_0_is_there_once_whoever_reads_it(self):
        self.assertEqual(last(("read", 0, 1, 2), ("read", 0, 1, 2), VALUES), [1, 0])

    def test_each_once(self):
        self.assertEqual(last(("write", 3, 1, 2), ("read", 3, 2, 3), ("read", 3, 2, 3), VALUES), [2, 0, 3])

    def test_open_writings(self):
        rows = told(("open_write", 1, 1), VALUES, ("open_write", 2, 1), ("read", 1, 1, 1), VALUES,
                    ("ended", 1, 5), VALUES, ("out", 2), VALUES)
        self.assertEqual([rows[1], rows[4], rows[6], rows[8]], [[1, 0], [2, 0, 1], [3, 0, 1, 2], [2, 0, 2]])

    def test_from_nowhere(self):
        self.assertEqual(last(("read", 5, 1, 2), VALUES), [1, 0])

    def test_also_where_moments_can_not_be_found(self):
        self.assertEqual(last(*CLASH, VALUES), [3, 0, 1, 2])

    def test_24(self):
        calls = [("write", value, 1, 2) for value in range(40, 16, -1)]
        self.assertEqual(last(*calls, VALUES), [25, 0, *range(17, 41)])


class Sure(unittest.TestCase):
    def sure(self, calls, *times):
        return told(*calls, *[("sure", time) for time in times])[len(calls):]

    def test_times(self):
        self.assertEqual(self.sure([], 0, 1, 1000000, 1000001, GREATEST), [[0], [0], [0], [-22], [-22]])

    def test_between_the_first_end_and_the_last_beginning(self):
        calls = [("write", 1, 1, 2), ("read", 1, 5, 6)]
        self.assertEqual(self.sure(calls, 1, 2, 3, 4, 5, 6), [[0], [0], [1, 1], [1, 1], [0], [0]])

    def test_not_where_the_last_beginning_is_earlier(self):
        self.assertEqual(self.sure([("write", 1, 2, 6)], *range(9)), [[0]] * 9)

    def test_0(self):
        self.assertEqual(self.sure([("read", 0, 3, 4)], 0, 1, 2, 3, 4), [[0], [1, 0], [1, 0], [0], [0]])
        self.assertEqual(self.sure([("write", 1, 5, 6)], 0, 1, 4), [[0], [0], [0]])

    def test_one_behind_another(self):
        calls = [("write", 7, 11, 12), ("read", 7, 15, 16), ("read", 0, 3, 4), ("write", 4, 5, 6), ("read", 4, 9, 9)]
        self.assertEqual(self.sure(calls, 2, 4, 8, 10, 14, 20), [[1, 0], [0], [1, 4], [0], [1, 7], [0]])

    def test_open_writings(self):
        calls = [("open_write", 5, 2), ("open_write", 6, 2), ("read", 5, 3, 4), ("read", 5, 7, 8)]
        self.assertEqual(self.sure(calls, 4, 5, 6, 7), [[0], [1, 5], [1, 5], [0]])

    def test_several_where_moments_can_not_be_found(self):
        calls = [("write", 2, 1, 3), ("read", 2, 8, 9), ("write", 1, 1, 2), ("read", 1, 9, 10)]
        self.assertEqual(self.sure(calls, 2, 3, 4, 7, 8, 9), [[0], [1, 1], [2, 1, 2], [2, 1, 2], [1, 1], [0]])

    def test_from_nowhere(self):
        self.assertEqual(self.sure([("read", 1, 1, 2), ("read", 1, 8, 9)], 5), [[0]])

    def test_at_the_edges_of_time(self):
        calls = [("write", 1, 1, 1), ("read", 1, 1000000, 1000000)]
        self.assertEqual(self.sure(calls, 0, 1, 2, 999999, 1000000), [[0], [0], [1, 1], [1, 1], [0]])


if __name__ == "__main__":
    unittest.main()
