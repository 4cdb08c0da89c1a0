"""Point 2: kept and why."""

import unittest

from tests.helper import KEPT, WHY, last, told


class Holding(unittest.TestCase):
    """Whether moments can be found, and if not why, by the hand's reckoning."""

    def found(self, *calls):
        self.assertEqual(told(*calls, KEPT, WHY)[-2:], [[1], [0]])

    def doubted(self, why, *calls):
        self.assertEqual(told(*calls, KEPT, WHY)[-2:], [[0], why])


class Found(Holding):
    def test_nobody(self):
        self.found()

    def test_one_writing(self):
        self.found(("write", 1, 3, 4))

    def test_written_then_read(self):
        self.found(("write", 1, 3, 4), ("read", 1, 6, 7), ("read", 0, 1, 2))

    def test_0_read_by_many(self):
        self.found(("read", 0, 1, 2), ("read", 0, 500, 600), ("read", 0, 1000000, 1000000))

    def test_two_at_a_time_read_one_way(self):
        self.found(("write", 1, 1, 10), ("write", 2, 1, 10), ("read", 1, 11, 12))
        self.found(("write", 1, 1, 10), ("write", 2, 1, 10), ("read", 2, 11, 12))

    def test_all_at_one_time(self):
        self.found(("read", 2, 5, 5), ("read", 1, 5, 5), ("read", 0, 5, 5), ("write", 1, 5, 5),
                   ("write", 2, 5, 5))

    def test_out_takes_the_doubt_away(self):
        rows = told(("write", 1, 1, 2), ("read", 0, 3, 4), KEPT, ("out", 1), KEPT)
        self.assertEqual(rows[2:], [[0], [1], [1]])


class FromNowhere(Holding):
    def test_no_writing(self):
        self.doubted([1, 0], ("read", 1, 3, 4))

    def test_the_first_such(self):
        self.doubted([1, 2], ("write", 1, 1, 2), ("read", 1, 3, 4), ("read", 3, 3, 4), ("read", 2, 1, 1),
                     ("read", 3, 1, 4))

    def test_0_is_not_from_nowhere(self):
        self.found(("read", 0, 3, 4))

    def test_an_open_writing_is_a_writing(self):
        self.found(("open_write", 1, 3), ("read", 1, 3, 4))

    def test_the_writing_may_be_told_later(self):
        self.found(("read", 1, 3, 4), ("write", 1, 3, 4))

    def test_it_goes_before_what_is_too_early_and_what_clashes(self):
        self.doubted([1, 4], ("write", 1, 5, 6), ("read", 1, 1, 2), ("write", 2, 10, 11),
                     ("read", 0, 20, 21), ("read", 3, 20, 21))

    def test_when_the_writing_is_out(self):
        rows = told(("write", 1, 1, 2), ("read", 1, 3, 4), WHY, ("out", 0), WHY)
        self.assertEqual(rows[2:], [[0], [1], [1, 0]])


class TooEarly(Holding):
    def test_ended_before_the_writing_began(self):
        self.doubted([2, 0, 1], ("write", 1, 5, 6), ("read", 1, 3, 4))

    def test_the_least_number_first(self):
        self.doubted([2, 0, 1], ("read", 1, 3, 4), ("write", 1, 5, 6))

    def test_ended_as_the_writing_began(self):
        self.found(("write", 1, 5, 6), ("read", 1, 3, 5))

    def test_began_before_the_writing_did(self):
        self.found(("write", 1, 5, 6), ("read", 1, 1, 9))

    def test_of_an_open_writing(self):
        self.doubted([2, 0, 1], ("open_write", 1, 5), ("read", 1, 3, 4))
        self.found(("open_write", 1, 5), ("read", 1, 3, 5))

    def test_the_first_such_reading(self):
        self.doubted([2, 1, 3], ("read", 1, 5, 6), ("read", 2, 1, 2), ("write", 1, 5, 6), ("write", 2, 5, 6),
                     ("read", 1, 1, 1), ("read", 2, 1, 1))

    def test_it_goes_before_what_clashes(self):
        self.doubted([2, 2, 3], ("write", 1, 1, 2), ("read", 0, 3, 4), ("write", 2, 20, 21), ("read", 2, 5, 6))


class Clashes(Holding):
    def test_a_later_value_before_an_earlier_one(self):
        self.doubted([3, 0, 1, 2, 3], ("write", 1, 1, 2), ("write", 2, 3, 4), ("read", 2, 5, 6),
                     ("read", 1, 7, 8))

    def test_overwritten_and_read_again(self):
        # 2 has its writing alone: first end, last beginning and writing are one operation's.
        self.doubted([3, 0, 1, 2], ("write", 1, 1, 2), ("write", 2, 3, 4), ("read", 1, 5, 6))

    def test_0_read_late(self):
        self.doubted([3, 0, 1], ("write", 1, 1, 2), ("read", 0, 3, 4))
        self.doubted([3, 0, 1], ("read", 0, 3, 4), ("write", 1, 1, 2))

    def test_0_read_as_the_writing_ended(self):
        self.found(("write", 1, 1, 3), ("read", 0, 3, 4))

    def test_0_read_late_behind_an_open_writing(self):
        self.found(("open_write", 1, 1), ("read", 0, 3, 4))
        self.found(("open_write", 1, 1), ("read", 0, 3, 4), ("read", 1, 1, 3))
        self.doubted([3, 0, 1, 2], ("open_write", 1, 1), ("read", 0, 3, 4), ("read", 1, 1, 2))

    def test_of_0_the_first_that_begins_last(self):
        self.doubted([3, 0, 2], ("write", 1, 1, 2), ("read", 0, 3, 4), ("read", 0, 5, 6), ("read", 0, 5, 5))

    def test_an_end_and_a_beginning_at_one_time(self):
        # 1's first end is 2, 2's last beginning is 2: 1 needn't come before 2.
        self.found(("write", 1, 1, 2), ("write", 2, 2, 4), ("read", 1, 5, 6))
        self.doubted([3, 0, 1, 2], ("write", 1, 1, 2), ("write", 2, 3, 4), ("read", 1, 5, 6))
        # 2's first end is 4, 1's last beginning is 4.
        self.found(("write", 1, 1, 2), ("write", 2, 3, 4), ("read", 1, 4, 6))

    def test_open_writings_that_nobody_read_do_not_clash(self):
        self.found(("write", 1, 1, 2), ("open_write", 2, 3), ("read", 1, 5, 6))

    def test_open_writings_that_somebody_read_do(self):
        self.doubted([3, 0, 1, 2, 3], ("write", 1, 1, 2), ("open_write", 2, 3), ("read", 1, 5, 6),
                     ("read", 2, 3, 4))

    def test_an_open_writing_has_its_end_behind_all(self):
        # 2's first end is its reading's; read late enough, 2 needn't come before 1.
        self.found(("write", 1, 1, 2), ("open_write", 2, 3), ("read", 1, 5, 6), ("read", 2, 5, 9))

    def test_ended_may_bring_a_clash(self):
        rows = told(("write", 1, 1, 2), ("open_write", 2, 3), ("read", 1, 5, 6), WHY, ("ended", 1, 4), WHY)
        self.assertEqual(rows[3:], [[0], [0], [3, 0, 1, 2]])

    def test_ended_late_brings_none(self):
        rows = told(("write", 1, 1, 2), ("open_write", 2, 3), ("read", 1, 5, 6), ("ended", 1, 5), WHY)
        self.assertEqual(rows[4], [0])

    def test_the_first_end_is_a_reading_s(self):
        self.doubted([3, 0, 1, 3, 4], ("write", 1, 1, 20), ("read", 1, 4, 5), ("read", 1, 6, 7),
                     ("write", 2, 9, 9), ("read", 1, 12, 13))

    def test_first_end_and_last_beginning_are_one_operation_s(self):
        # Reading 2 gives value 2 both its first end and its last beginning: it's told once.
        self.doubted([3, 0, 1, 2, 3], ("write", 1, 1, 2), ("write", 2, 1, 50), ("read", 2, 8, 9),
                     ("read", 1, 10, 11), ("read", 2, 1, 20))

    def test_the_first_of_like_ones(self):
        # 1 ends first with 1 and 2, begins last with 4 and 5; 2 with 6 and 7, and 6 and 7.
        self.doubted([3, 0, 1, 3, 4, 6], ("write", 1, 1, 20), ("read", 1, 4, 5), ("read", 1, 3, 5),
                     ("write", 2, 5, 30), ("read", 1, 12, 13), ("read", 1, 12, 14), ("read", 2, 9, 9),
                     ("read", 2, 9, 9))

    def test_the_first_of_like_ones_may_stand_ahead_of_the_writing(self):
        # Of 1 a reading ends first together with the writing; of 2 one begins last together with it.
        self.doubted([3, 0, 1, 2, 3], ("read", 1, 1, 2), ("write", 1, 1, 2), ("write", 2, 3, 4), ("read", 1, 5, 6))
        self.doubted([3, 0, 1, 2, 3], ("read", 2, 3, 9), ("write", 1, 1, 2), ("write", 2, 3, 4), ("read", 1, 5, 6))

    def test_six(self):
        self.doubted([3, 0, 1, 2, 3, 4, 5], ("write", 1, 1, 40), ("write", 2, 1, 40), ("read", 1, 2, 3),
                     ("read", 2, 2, 3), ("read", 1, 10, 11), ("read", 2, 10, 11))

    def test_the_least_number_first(self):
        self.doubted([3, 0, 1, 2, 3, 4, 5], ("read", 2, 10, 11), ("read", 1, 10, 11), ("read", 2, 2, 3),
                     ("read", 1, 2, 3), ("write", 2, 1, 40), ("write", 1, 1, 40))

    def test_two_clashes_the_lesser_value_goes_first(self):
        # 3 and 4 clash, 5 and 2 clash: 2 with 5 is told.
        self.doubted([3, 3, 4, 5], ("write", 3, 1, 2), ("write", 4, 3, 4), ("read", 3, 5, 6),
                     ("write", 5, 11, 12), ("write", 2, 13, 14), ("read", 5, 15, 16))

    def test_two_clashes_with_one_value_the_lesser_other_goes_first(self):
        # 1 clashes with 3, told first, and with 2.
        self.doubted([3, 0, 2, 3], ("write", 1, 1, 2), ("write", 3, 3, 4), ("write", 2, 3, 4),
                     ("read", 1, 5, 6))

    def test_two_clashes_with_0(self):
        self.doubted([3, 1, 2], ("write", 9, 1, 2), ("write", 8, 1, 2), ("read", 0, 3, 4))

    def test_a_clash_with_0_goes_before_others(self):
        self.doubted([3, 2, 3], ("write", 1, 11, 12), ("write", 2, 13, 14), ("write", 40, 1, 2),
                     ("read", 0, 3, 4), ("read", 1, 15, 16))


class Operations(unittest.TestCase):
    def test_numbers_follow_an_out(self):
        calls = [("read", 0, 1, 1), ("write", 1, 1, 2), ("read", 0, 3, 4), ("out", 0), WHY]
        self.assertEqual(last(*calls), [3, 0, 1])


if __name__ == "__main__":
    unittest.main()
