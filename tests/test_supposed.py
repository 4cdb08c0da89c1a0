"""Point 5: late, without, blame."""

import unittest

from tests.helper import BLAME, LATE, STATE, last, told

GREATEST = 4294967295
LATE_0 = [("write", 1, 1, 2), ("read", 0, 5, 6)]
CLASH = [("write", 1, 1, 2), ("write", 2, 5, 6), ("read", 1, 9, 10)]


class Late(unittest.TestCase):
    def late(self, amount, *calls):
        self.assertEqual(last(*calls, LATE), [amount])

    def test_nobody(self):
        self.late(0)

    def test_where_moments_can_be_found(self):
        self.late(0, ("write", 1, 1, 2), ("read", 1, 500, 600), ("read", 0, 1, 1))
        self.late(0, ("open_write", 1, 1))

    def test_from_nowhere(self):
        self.late(-22, ("read", 1, 5, 6))
        self.late(-22, *LATE_0, ("read", 2, 5, 6))

    def test_too_early(self):
        self.late(-22, ("write", 1, 5, 6), ("read", 1, 3, 4))
        self.late(-22, *LATE_0, ("write", 2, 5, 6), ("read", 2, 3, 4))
        self.late(-22, ("open_write", 1, 5), ("read", 1, 3, 4))

    def test_0_read_late(self):
        self.late(3, *LATE_0)
        self.late(1, ("write", 1, 1, 2), ("read", 0, 3, 6))
        self.late(0, ("write", 1, 1, 2), ("read", 0, 2, 6))

    def test_a_reading_behind_another_writing(self):
        # 1 was read from 9 on; so that it needn't have been behind 2, which ended at 6.
        self.late(3, *CLASH)

    def test_the_lesser_of_the_two_ways(self):
        # 1 may begin at 3 at the latest (6 earlier), or 2 at 2 (5 earlier).
        self.late(5, ("write", 1, 1, 2), ("read", 1, 9, 10), ("write", 2, 1, 3), ("read", 2, 7, 9))
        self.late(5, ("write", 2, 1, 2), ("read", 2, 9, 10), ("write", 1, 1, 3), ("read", 1, 7, 9))

    def test_a_writing_does_not_begin_earlier(self):
        # Of 2 the reading could begin at 2 (6 earlier), but its writing began at 3, and so it's the other way.
        self.late(98, ("write", 1, 1, 2), ("read", 1, 102, 103), ("write", 2, 3, 4), ("read", 2, 8, 9))
        self.late(6, ("write", 1, 1, 2), ("read", 1, 102, 103), ("write", 2, 2, 4), ("read", 2, 8, 9))

    def test_ends_stay(self):
        self.late(6, ("write", 1, 1, 20), ("read", 1, 2, 3), ("read", 1, 10, 12), ("write", 2, 4, 4))

    def test_the_greatest_that_a_clash_asks_for(self):
        other = [("write", 2, 11, 12), ("write", 3, 13, 14), ("read", 2, 20, 21)]
        self.late(6, *LATE_0, *other)
        self.late(6, *other, *LATE_0)
        self.late(8, ("write", 1, 1, 2), ("read", 0, 10, 11), *other)

    def test_those_that_would_begin_before_time_0_begin_at_0(self):
        self.late(999999, ("write", 1, 1, 1), ("read", 0, 1000000, 1000000), ("read", 0, 1, 9))
        self.late(999998, ("write", 1, 1, 2), ("read", 0, 3, 3), ("read", 0, 1000000, 1000000))

    def test_an_open_writing_that_somebody_read(self):
        self.late(3, ("open_write", 1, 5), ("read", 1, 6, 7), ("write", 2, 8, 9), ("read", 1, 12, 13))
        self.late(2, ("open_write", 1, 2), ("read", 1, 4, 5), ("read", 0, 7, 8))

    def test_an_open_writing_that_nobody_read(self):
        self.late(0, ("open_write", 1, 2), ("read", 0, 7, 8))

    def test_nothing_is_told_otherwise(self):
        self.assertEqual(told(*CLASH, LATE, STATE)[-1], told(*CLASH, STATE)[-1])


class Without(unittest.TestCase):
    def without(self, right, *calls):
        rows = told(*calls, *[("without", number) for number in range(len(calls))])
        self.assertEqual(rows[len(calls):], [[one] for one in right])

    def test_none_such(self):
        for number in (0, 23, GREATEST):
            self.assertEqual(last(("without", number)), [-2], number)
        for number in (2, 24, GREATEST):
            self.assertEqual(last(*LATE_0, ("without", number)), [-2], number)

    def test_where_moments_can_be_found_with_all(self):
        # Without the writing its reading is from nowhere.
        self.without([0, 1, 1], ("write", 1, 1, 2), ("read", 1, 3, 4), ("read", 0, 1, 1))
        self.without([1], ("write", 1, 1, 2))
        self.without([1], ("open_write", 1, 1))

    def test_0_read_late(self):
        self.without([1, 1], *LATE_0)

    def test_from_nowhere(self):
        self.without([1], ("read", 1, 3, 4))
        self.without([0, 0, 0], ("read", 1, 3, 4), ("read", 1, 3, 4), ("read", 0, 3, 4))

    def test_too_early(self):
        self.without([0, 1], ("write", 1, 5, 6), ("read", 1, 3, 4))
        self.without([0, 0, 0], ("read", 1, 3, 4), ("write", 1, 5, 6), ("read", 1, 3, 4))

    def test_a_clash(self):
        self.without([0, 1, 1], *CLASH)

    def test_an_open_writing_without_the_one_who_read_it(self):
        self.without([0, 1, 1], ("open_write", 1, 1), ("read", 1, 2, 3), ("read", 0, 5, 6))
        self.without([0, 0, 0, 1], ("open_write", 1, 1), ("read", 1, 2, 3), ("read", 1, 2, 3), ("read", 0, 5, 6))

    def test_it_is_still_told(self):
        self.assertEqual(told(*CLASH, ("without", 1), STATE)[-1], told(*CLASH, STATE)[-1])


class Blame(unittest.TestCase):
    def blame(self, right, *calls):
        self.assertEqual(last(*calls, BLAME), [len(right)] + right)

    def test_nobody(self):
        self.blame([])

    def test_none_where_moments_can_be_found_with_all(self):
        self.blame([], ("write", 1, 1, 2), ("read", 1, 3, 4), ("read", 0, 1, 1))

    def test_0_read_late(self):
        self.blame([0, 1], *LATE_0)
        self.blame([2], *LATE_0[:1], ("write", 2, 1, 2), *LATE_0[1:])
        self.blame([0], *LATE_0, ("read", 0, 7, 8))

    def test_from_nowhere(self):
        self.blame([1], ("read", 0, 1, 1), ("read", 1, 3, 4), ("write", 2, 1, 1))
        self.blame([], ("read", 1, 3, 4), ("read", 2, 3, 4))

    def test_too_early(self):
        self.blame([1], ("write", 1, 5, 6), ("read", 1, 3, 4))
        self.blame([0], ("read", 1, 3, 4), ("write", 1, 5, 6))
        self.blame([], ("read", 1, 3, 4), ("write", 1, 5, 6), ("read", 1, 2, 4))

    def test_a_clash(self):
        self.blame([1, 2], *CLASH)
        self.blame([1], *CLASH, ("read", 1, 9, 10))
        self.blame([0, 4], ("write", 2, 5, 6), ("read", 0, 1, 1), ("write", 1, 1, 2), ("read", 1, 1, 7),
                   ("read", 1, 9, 10))

    def test_an_open_writing_that_somebody_read(self):
        self.blame([1, 2], ("open_write", 1, 1), ("read", 1, 2, 3), ("read", 0, 5, 6))

    def test_two_clashes(self):
        self.blame([], *LATE_0, ("write", 2, 11, 12), ("write", 3, 13, 14), ("read", 2, 20, 21))

    def test_two_kinds_of_doubt(self):
        # Without the reading that is too early the clash is left.
        self.blame([], *LATE_0, ("write", 2, 5, 6), ("read", 2, 3, 4))
        self.blame([], *LATE_0, ("read", 2, 3, 4))

    def test_one_who_is_in_both_clashes(self):
        self.blame([3], ("write", 1, 1, 2), ("write", 2, 3, 4), ("write", 3, 3, 4), ("read", 1, 6, 7))

    def test_at_the_end_of_24(self):
        calls = [("write", value, 1, 1000000) for value in range(1, 23)]
        self.blame([22, 23], *calls, ("write", 40, 1, 2), ("read", 0, 3, 4))


if __name__ == "__main__":
    unittest.main()
