"""Point 3: order and moments."""

import unittest

from tests.helper import MOMENTS, ORDER, told


class OrderAndMoments(unittest.TestCase):
    def told_so(self, order, moments, *calls):
        rows = told(*calls, ORDER, MOMENTS)[-2:]
        self.assertEqual(rows, [[len(order)] + order, [len(moments)] + moments])

    def test_nobody(self):
        self.told_so([], [])

    def test_only_an_open_writing_that_nobody_read(self):
        self.told_so([], [], ("open_write", 1, 3))

    def test_one(self):
        self.told_so([0], [3], ("write", 1, 3, 9))
        self.told_so([0], [3], ("read", 0, 3, 9))

    def test_0_goes_first(self):
        self.told_so([1, 0], [3, 3], ("write", 1, 1, 9), ("read", 0, 3, 9))

    def test_a_value_s_writing_goes_before_its_readings(self):
        self.told_so([1, 0], [5, 5], ("read", 1, 2, 9), ("write", 1, 5, 9))

    def test_readings_as_they_begin(self):
        self.told_so([0, 3, 2, 1], [1, 2, 3, 4], ("write", 1, 1, 9), ("read", 1, 4, 9), ("read", 1, 3, 9),
                     ("read", 1, 2, 9))

    def test_of_like_readings_the_lesser_number_first(self):
        self.told_so([3, 1, 0, 2, 4], [1, 2, 3, 3, 3], ("read", 1, 3, 9), ("read", 1, 2, 8), ("read", 1, 3, 4),
                     ("write", 1, 1, 9), ("read", 1, 3, 3))

    def test_like_readings_of_0(self):
        self.told_so([2, 0, 1], [2, 3, 3], ("read", 0, 3, 9), ("read", 0, 3, 4), ("read", 0, 2, 4))

    def test_the_least_value_first_where_all_are_free(self):
        self.told_so([2, 1, 0], [5, 5, 5], ("write", 3, 5, 9), ("write", 2, 5, 9), ("write", 1, 5, 9))

    def test_a_value_waits_for_those_that_must_come_before(self):
        self.told_so([0, 1, 2], [1, 3, 5], ("write", 3, 1, 2), ("write", 2, 3, 4), ("write", 1, 5, 6))

    def test_the_least_one_left_again_and_again(self):
        # 3 must come before 1; 2 is free all the while, and 1 is the least once 3 is told.
        self.told_so([2, 1, 0], [1, 1, 5], ("write", 1, 5, 6), ("write", 3, 1, 2), ("write", 2, 1, 9))
        # 2 must come before 1: behind 2 the least one left is 1, not 3.
        self.told_so([1, 0, 2], [1, 5, 5], ("write", 1, 5, 9), ("write", 2, 1, 2), ("write", 3, 1, 9))

    def test_an_end_and_a_beginning_at_one_time(self):
        # 2 ended as 1 began: it needn't come before.
        self.told_so([0, 1], [5, 5], ("write", 1, 5, 9), ("write", 2, 1, 5))
        self.told_so([1, 0], [1, 5], ("write", 1, 5, 9), ("write", 2, 1, 4))

    def test_a_reading_makes_its_value_wait(self):
        self.told_so([1, 0, 2], [3, 3, 7], ("write", 1, 1, 9), ("write", 2, 3, 4), ("read", 1, 7, 8))

    def test_an_open_writing_that_somebody_read(self):
        self.told_so([1, 2, 0], [1, 4, 5], ("write", 1, 5, 6), ("open_write", 2, 1), ("read", 2, 4, 4))

    def test_an_open_writing_that_nobody_read_is_left_out(self):
        self.told_so([1], [5], ("open_write", 2, 1), ("write", 1, 5, 6))

    def test_an_open_writing_that_has_ended_is_told(self):
        self.told_so([0, 1], [1, 5], ("open_write", 2, 1), ("write", 1, 5, 6), ("ended", 0, 2))

    def test_the_moment_of_the_one_before_if_that_is_later(self):
        self.told_so([0, 1, 3, 2], [4, 6, 6, 8], ("write", 1, 4, 9), ("read", 1, 6, 9), ("write", 9, 8, 9),
                     ("write", 2, 1, 9))

    def test_a_reading_that_ended_as_its_writing_began(self):
        self.told_so([0, 1], [5, 5], ("write", 1, 5, 6), ("read", 1, 3, 5))

    def test_at_the_last_time(self):
        self.told_so([0, 1], [1000000, 1000000], ("open_write", 40, 1000000), ("read", 40, 1, 1000000))

    def test_24(self):
        calls = [("write", value, 100 - value, 100 - value) for value in range(1, 25)]
        self.told_so(list(range(23, -1, -1)), list(range(76, 100)), *calls)


class Refused(unittest.TestCase):
    def refused(self, *calls):
        self.assertEqual(told(*calls, ORDER, MOMENTS)[-2:], [[-22], [-22]])

    def test_from_nowhere(self):
        self.refused(("read", 1, 2, 3))

    def test_too_early(self):
        self.refused(("read", 1, 2, 3), ("write", 1, 4, 5))

    def test_a_clash(self):
        self.refused(("write", 1, 1, 2), ("read", 0, 3, 4))
        self.refused(("write", 1, 1, 2), ("write", 2, 3, 4), ("read", 1, 5, 6))

    def test_until_the_doubt_is_out(self):
        rows = told(("write", 1, 1, 2), ("read", 0, 3, 4), ORDER, ("out", 1), ORDER, MOMENTS)
        self.assertEqual(rows[2:], [[-22], [1], [1, 0], [1, 1]])


if __name__ == "__main__":
    unittest.main()
