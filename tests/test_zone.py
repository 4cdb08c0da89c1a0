"""Point 4: zone."""

import unittest

from tests.helper import last, told


class Zone(unittest.TestCase):
    def test_0_that_nobody_read(self):
        self.assertEqual(last(("zone", 0)), [0, 0, 0])
        self.assertEqual(last(("write", 1, 2, 3), ("zone", 0)), [0, 0, 0])

    def test_0_that_somebody_read(self):
        # Its first end is time 0, whoever reads it.
        self.assertEqual(last(("read", 0, 2, 3), ("zone", 0)), [1, 0, 2])
        self.assertEqual(last(("read", 0, 7, 9), ("read", 0, 2, 3), ("zone", 0)), [1, 0, 7])
        self.assertEqual(last(("read", 0, 1, 1), ("zone", 0)), [1, 0, 1])

    def test_a_writing_alone(self):
        self.assertEqual(last(("write", 5, 2, 9), ("zone", 5)), [0, 2, 9])

    def test_a_beginning_behind_an_end(self):
        self.assertEqual(last(("write", 5, 2, 4), ("read", 5, 7, 9), ("zone", 5)), [1, 4, 7])
        self.assertEqual(last(("write", 5, 2, 20), ("read", 5, 3, 6), ("read", 5, 8, 9), ("zone", 5)), [1, 6, 8])

    def test_a_beginning_ahead_of_an_end(self):
        self.assertEqual(last(("write", 5, 2, 8), ("read", 5, 6, 9), ("zone", 5)), [0, 6, 8])

    def test_a_beginning_and_an_end_at_one_time(self):
        self.assertEqual(last(("write", 5, 2, 6), ("read", 5, 6, 9), ("zone", 5)), [0, 6, 6])
        self.assertEqual(last(("write", 5, 2, 6), ("read", 5, 7, 9), ("zone", 5)), [1, 6, 7])
        self.assertEqual(last(("write", 5, 6, 6), ("zone", 5)), [0, 6, 6])

    def test_an_open_writing_that_somebody_read(self):
        self.assertEqual(last(("open_write", 5, 2), ("read", 5, 4, 9), ("zone", 5)), [0, 4, 9])
        self.assertEqual(last(("open_write", 5, 2), ("read", 5, 4, 5), ("read", 5, 7, 9), ("zone", 5)), [1, 5, 7])
        self.assertEqual(last(("open_write", 5, 2), ("read", 5, 1, 1000000), ("zone", 5)), [0, 2, 1000000])

    def test_an_open_writing_that_nobody_read(self):
        self.assertEqual(last(("open_write", 5, 2), ("zone", 5)), [-2])
        self.assertEqual(told(("open_write", 5, 2), ("ended", 0, 3), ("zone", 5))[-1], [0, 2, 3])

    def test_others_do_not_matter(self):
        calls = [("write", 5, 2, 8), ("read", 6, 1, 1), ("write", 7, 100, 200), ("read", 0, 50, 60)]
        self.assertEqual(last(*calls, ("zone", 5)), [0, 2, 8])

    def test_also_where_moments_can_not_be_found(self):
        self.assertEqual(last(("write", 5, 4, 8), ("read", 5, 1, 2), ("zone", 5)), [1, 2, 4])

    def test_none_such(self):
        for value in (1, 2, 40, 41, 4294967295):
            self.assertEqual(last(("write", 5, 2, 8), ("zone", value)), [-2], value)

    def test_a_value_from_nowhere_is_none_such(self):
        self.assertEqual(last(("read", 5, 2, 8), ("zone", 5)), [-2])

    def test_40(self):
        self.assertEqual(last(("write", 40, 1, 1000000), ("zone", 40)), [0, 1, 1000000])

    def test_no_more_when_it_is_out(self):
        self.assertEqual(told(("write", 5, 2, 8), ("out", 0), ("zone", 5))[-1], [-2])


if __name__ == "__main__":
    unittest.main()
