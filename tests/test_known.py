"""Point 6: since, cut, could."""

import unittest

from tests.helper import KEPT, SINCE, STATE, VALUES, WHY, last, told

GREATEST = 4294967295
MIXED = [("write", 1, 2, 8), ("read", 0, 3, 5), ("open_write", 2, 4), ("read", 1, 4, 6), ("write", 3, 6, 7)]


class Since(unittest.TestCase):
    def since(self, time, *calls):
        self.assertEqual(last(*calls, SINCE), [time])

    def test_nobody(self):
        self.since(0)

    def test_where_moments_can_be_found(self):
        self.since(0, ("write", 1, 1, 2), ("read", 1, 500, 600), ("read", 0, 1, 1))
        self.since(0, ("open_write", 1, 1), ("read", 0, 5, 6))

    def test_0_read_late(self):
        # It isn't known before the reading has ended.
        self.since(6, ("write", 1, 1, 2), ("read", 0, 5, 6))
        self.since(5, ("write", 1, 1, 2), ("read", 0, 5, 5))

    def test_from_nowhere(self):
        self.since(4, ("read", 1, 3, 4))
        self.since(1, ("read", 1, 1, 1))

    def test_too_early_was_from_nowhere_first(self):
        self.since(4, ("read", 1, 3, 4), ("write", 1, 8, 9))
        self.since(4, ("read", 1, 3, 4), ("open_write", 1, 5))

    def test_read_as_it_began_to_be_written(self):
        self.since(0, ("read", 1, 3, 5), ("write", 1, 5, 9))

    def test_read_before_the_writing_ended(self):
        self.since(0, ("write", 1, 1, 20), ("read", 1, 3, 4))
        # The writing is open at that time, but somebody read it.
        self.since(8, ("write", 1, 1, 20), ("read", 1, 3, 4), ("read", 0, 7, 8))

    def test_a_clash(self):
        self.since(6, ("write", 1, 1, 2), ("write", 2, 3, 4), ("read", 1, 5, 6))

    def test_an_open_writing(self):
        self.since(7, ("open_write", 1, 2), ("read", 1, 3, 4), ("read", 0, 6, 7))
        self.since(0, ("open_write", 1, 2), ("read", 0, 6, 7))
        self.since(7, ("open_write", 1, 2), ("read", 0, 6, 7), ("ended", 0, 4))
        # What was read of 1 at 3 is known at 4; that it was read again behind 2 is known at 9.
        self.since(9, ("open_write", 1, 2), ("read", 1, 3, 4), ("write", 2, 5, 6), ("read", 1, 7, 9))

    def test_the_earliest(self):
        self.since(8, ("write", 1, 1, 2), ("read", 0, 5, 9), ("read", 0, 7, 8))
        self.since(8, ("write", 1, 1, 2), ("read", 0, 7, 8), ("read", 3, 5, 9))
        self.since(3, ("write", 1, 1, 2), ("read", 0, 7, 8), ("read", 3, 3, 3))

    def test_the_last_time(self):
        self.since(1000000, ("write", 1, 1, 1), ("read", 0, 1000000, 1000000))
        self.since(1000000, ("open_write", 2, 1000000), ("read", 1, 1, 1000000))

    def test_nothing_is_told_otherwise(self):
        self.assertEqual(told(*MIXED, SINCE, STATE)[-1], told(*MIXED, STATE)[-1])


class Cut(unittest.TestCase):
    def cut(self, time, state):
        rows = told(*MIXED, ("cut", time), STATE)[-2:]
        self.assertEqual(rows, [[len(state)], [len(state)] + [number for four in state for number in four]])

    def test_beyond_all_times(self):
        for time in (1000001, GREATEST):
            self.assertEqual(told(*MIXED, ("cut", time), STATE)[-2:], [[-22]] + told(*MIXED, STATE)[-1:])
            self.assertEqual(last(("cut", time)), [-22])

    def test_before_all(self):
        self.cut(0, [])
        self.cut(1, [])

    def test_began_at_that_time(self):
        self.cut(2, [(2, 1, 2, 0)])
        self.cut(3, [(2, 1, 2, 0)])
        self.cut(4, [(2, 1, 2, 0), (2, 2, 4, 0)])

    def test_a_reading_ended_at_that_time(self):
        self.cut(5, [(2, 1, 2, 0), (0, 0, 3, 5), (2, 2, 4, 0)])
        self.cut(6, [(2, 1, 2, 0), (0, 0, 3, 5), (2, 2, 4, 0), (0, 1, 4, 6), (2, 3, 6, 0)])

    def test_a_writing_ended_at_that_time(self):
        self.cut(7, [(2, 1, 2, 0), (0, 0, 3, 5), (2, 2, 4, 0), (0, 1, 4, 6), (1, 3, 6, 7)])
        self.cut(8, [(1, 1, 2, 8), (0, 0, 3, 5), (2, 2, 4, 0), (0, 1, 4, 6), (1, 3, 6, 7)])

    def test_behind_all(self):
        for time in (9, 999999, 1000000):
            self.cut(time, [(1, 1, 2, 8), (0, 0, 3, 5), (2, 2, 4, 0), (0, 1, 4, 6), (1, 3, 6, 7)])

    def test_nobody(self):
        self.assertEqual(told(("cut", 0), ("cut", 1000000), STATE), [[0], [0], [0]])

    def test_at_the_last_time(self):
        calls = [("read", 0, 1, 1000000), ("write", 1, 1, 1000000), ("open_write", 2, 1000000)]
        self.assertEqual(told(*calls, ("cut", 999999), STATE)[3:], [[1], [1, 2, 1, 1, 0]])
        self.assertEqual(told(*calls, ("cut", 1000000), STATE)[3:],
                         [[3], [3, 0, 0, 1, 1000000, 1, 1, 1, 1000000, 2, 2, 1000000, 0]])

    def test_what_was_cut_does_not_come_back(self):
        rows = told(*MIXED, ("cut", 5), ("cut", 1000000), STATE)
        self.assertEqual(rows[-2:], [[3], [3, 2, 1, 2, 0, 0, 0, 3, 5, 2, 2, 4, 0]])

    def test_the_others_are_numbered_anew(self):
        rows = told(*MIXED, ("cut", 4), ("op", 1), ("op", 2), ("read", 0, 1, 1), ("ended", 0, 9), ("op", 0))
        self.assertEqual(rows[5:], [[2], [0, 2, 2, 4, 0], [-2], [2], [0], [0, 1, 1, 2, 9]])

    def test_what_is_not_told_any_more_may_be_written_again(self):
        rows = told(*MIXED, ("cut", 5), ("write", 3, 1, 1), ("write", 1, 1, 1), ("open_write", 2, 1))
        self.assertEqual(rows[6:], [[3], [-17], [-17]])

    def test_there_is_room_again(self):
        calls = [("write", value, value, 100) for value in range(1, 25)]
        rows = told(*calls, ("cut", 23), ("read", 0, 1, 1), ("read", 0, 1, 1))
        self.assertEqual(rows[24:], [[23], [23], [-28]])

    def test_nobody_read_what_was_read_later(self):
        rows = told(("write", 1, 1, 9), ("read", 1, 2, 7), VALUES, ("cut", 6), VALUES)
        self.assertEqual(rows[2:], [[2, 0, 1], [1], [1, 0]])

    def test_as_since_tells(self):
        calls = [("write", 1, 1, 2), ("read", 0, 5, 6)]
        self.assertEqual(told(*calls, ("cut", 5), KEPT)[2:], [[1], [1]])
        self.assertEqual(told(*calls, ("cut", 6), KEPT, WHY)[2:], [[2], [0], [3, 0, 1]])


class Could(unittest.TestCase):
    def could(self, start, end, right, *calls):
        self.assertEqual(last(*calls, ("could", start, end)), [len(right)] + right)

    def test_times(self):
        for start, end in ((0, 0), (0, 5), (8, 7), (1, 0), (1000000, 999999), (1, 1000001), (1000001, 1000001),
                           (1000001, 5), (5, GREATEST), (GREATEST, GREATEST)):
            self.assertEqual(last(("could", start, end)), [-22], (start, end))
            self.assertEqual(last(*MIXED, ("could", start, end)), [-22], (start, end))
        for start, end in ((1, 1), (1, 1000000), (1000000, 1000000), (7, 8)):
            self.could(start, end, [0])

    def test_around_a_writing(self):
        one = ("write", 1, 3, 4)
        self.could(1, 2, [0], one)
        self.could(1, 3, [0, 1], one)
        self.could(3, 3, [0, 1], one)
        self.could(4, 9, [0, 1], one)
        self.could(5, 9, [1], one)
        self.could(1, 1000000, [0, 1], one)

    def test_an_open_writing_that_nobody_read(self):
        self.could(5, 9, [0, 1], ("open_write", 1, 3))
        self.could(1, 2, [0], ("open_write", 1, 3))
        self.could(1, 3, [0, 1], ("open_write", 1, 3))

    def test_an_open_writing_that_somebody_read(self):
        self.could(6, 9, [1], ("open_write", 1, 3), ("read", 1, 4, 5))
        self.could(5, 9, [0, 1], ("open_write", 1, 3), ("read", 1, 4, 5))

    def test_an_overwritten_value(self):
        two = [("write", 1, 1, 2), ("write", 2, 3, 4)]
        self.could(5, 6, [2], *two)
        self.could(3, 6, [1, 2], *two)
        self.could(4, 6, [1, 2], *two)
        self.could(2, 3, [0, 1, 2], *two)

    def test_the_least_first(self):
        self.could(5, 6, [3, 7, 9], ("write", 9, 1, 5), ("write", 3, 1, 6), ("open_write", 7, 4), ("write", 1, 1, 2),
                   ("write", 5, 8, 9), ("read", 3, 4, 4))

    def test_none_where_moments_can_not_be_found(self):
        self.could(1, 9, [], ("write", 1, 1, 2), ("read", 0, 5, 6))
        self.could(1, 9, [], ("write", 1, 5, 6), ("read", 1, 3, 4))

    def test_from_nowhere(self):
        self.could(1, 9, [], ("read", 1, 5, 6), ("write", 2, 1, 9))

    def test_two_at_one_time(self):
        self.could(3, 3, [1, 2], ("write", 1, 1, 2), ("write", 2, 3, 4), ("read", 1, 3, 3), ("write", 3, 9, 9))

    def test_also_when_24_are_told(self):
        calls = [("write", value, 1, 1000000) for value in range(1, 25)]
        self.could(5, 5, list(range(25)), *calls)
        self.assertEqual(last(*calls, ("could", 6, 5)), [-22])
        self.assertEqual(told(*calls, ("could", 5, 5), STATE)[-1], told(*calls, STATE)[-1])

    def test_that_one_is_not_told(self):
        rows = told(*MIXED, ("could", 1, 9), STATE, ("read", 0, 1, 1))
        self.assertEqual(rows[-2:], told(*MIXED, STATE, ("read", 0, 1, 1))[-2:])


if __name__ == "__main__":
    unittest.main()
