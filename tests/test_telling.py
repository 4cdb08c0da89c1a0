"""Point 1: begin, write, open, read, ended, out, and their refusals."""

import unittest

from tests.helper import (
    BEGIN, BLAME, KEPT, LATE, MOMENTS, ORDER, SINCE, STATE, VALUES, WHY, last, probe, run, told,
)

GREATEST = 4294967295


def writings(how_many):
    return [("write", value, 1, 1000000) for value in range(1, how_many + 1)]


class Begin(unittest.TestCase):
    def test_answers_0(self):
        self.assertEqual(run(BEGIN), [[0]])

    def test_again_nothing_is_told_any_more(self):
        rows = told(("write", 1, 2, 3), ("read", 0, 5, 6), KEPT, BEGIN, KEPT, ORDER, ("zone", 1),
                    ("out", 0), ("write", 1, 2, 3))
        self.assertEqual(rows, [[0], [1], [0], [0], [1], [0], [-2], [-2], [0]])

    def test_again_there_is_room_for_24_again(self):
        rows = told(*writings(24), BEGIN, *writings(24), ("read", 0, 1, 1))
        self.assertEqual(rows[25:48], [[number] for number in range(23)])
        self.assertEqual(rows[48:], [[23], [-28]])

    def test_again_and_again(self):
        self.assertEqual(run(BEGIN, BEGIN, BEGIN), [[0], [0], [0]])


class Numbers(unittest.TestCase):
    def test_count_from_0_as_they_are_told(self):
        rows = told(("write", 7, 1, 2), ("read", 7, 1, 2), ("open_write", 3, 1), ("read", 0, 1, 1))
        self.assertEqual(rows, [[0], [1], [2], [3]])

    def test_a_refused_one_takes_no_number(self):
        rows = told(("write", 7, 1, 2), ("write", 7, 1, 2), ("read", 41, 1, 2), ("read", 7, 1, 2))
        self.assertEqual(rows, [[0], [-17], [-22], [1]])


class Values(unittest.TestCase):
    def test_of_write(self):
        for value, right in ((0, -22), (1, 0), (40, 0), (41, -22), (GREATEST, -22)):
            self.assertEqual(last(("write", value, 5, 6)), [right], value)

    def test_of_open(self):
        for value, right in ((0, -22), (1, 0), (40, 0), (41, -22), (GREATEST, -22)):
            self.assertEqual(last(("open_write", value, 5)), [right], value)

    def test_of_read(self):
        for value, right in ((0, 0), (1, 0), (40, 0), (41, -22), (GREATEST, -22)):
            self.assertEqual(last(("read", value, 5, 6)), [right], value)


class Times(unittest.TestCase):
    pairs = (
        (1, 1, 0), (1, 1000000, 0), (1000000, 1000000, 0), (7, 7, 0), (7, 8, 0),
        (0, 0, -22), (0, 5, -22), (8, 7, -22), (1, 0, -22), (1000000, 999999, -22),
        (1, 1000001, -22), (1000001, 1000001, -22), (1000001, 5, -22), (5, GREATEST, -22),
        (GREATEST, GREATEST, -22),
    )

    def test_of_write(self):
        for start, end, right in self.pairs:
            self.assertEqual(last(("write", 1, start, end)), [right], (start, end))

    def test_of_read(self):
        for start, end, right in self.pairs:
            self.assertEqual(last(("read", 0, start, end)), [right], (start, end))

    def test_of_open(self):
        for start, right in ((0, -22), (1, 0), (1000000, 0), (1000001, -22), (GREATEST, -22)):
            self.assertEqual(last(("open_write", 1, start)), [right], start)

    def test_of_ended(self):
        for time, right in ((0, -22), (1, -22), (4, -22), (5, 0), (6, 0), (1000000, 0),
                            (1000001, -22), (GREATEST, -22)):
            self.assertEqual(last(("open_write", 1, 5), ("ended", 0, time)), [right], time)

    def test_of_ended_at_the_edges_of_time(self):
        self.assertEqual(last(("open_write", 1, 1), ("ended", 0, 1)), [0])
        self.assertEqual(last(("open_write", 1, 1), ("ended", 0, 0)), [-22])
        self.assertEqual(last(("open_write", 1, 1000000), ("ended", 0, 1000000)), [0])
        self.assertEqual(last(("open_write", 1, 1000000), ("ended", 0, 1000001)), [-22])


class WrittenOnce(unittest.TestCase):
    def test_a_second_writing_is_refused(self):
        for first in (("write", 9, 1, 2), ("open_write", 9, 1)):
            for second in (("write", 9, 5, 6), ("open_write", 9, 5)):
                self.assertEqual(told(first, second), [[0], [-17]], (first, second))

    def test_also_when_the_open_one_has_ended(self):
        rows = told(("open_write", 9, 1), ("ended", 0, 4), ("write", 9, 5, 6), ("open_write", 9, 5))
        self.assertEqual(rows[2:], [[-17], [-17]])

    def test_a_reading_is_no_writing(self):
        self.assertEqual(told(("read", 9, 1, 2), ("write", 9, 1, 2)), [[0], [1]])
        self.assertEqual(told(("read", 9, 1, 2), ("open_write", 9, 1)), [[0], [1]])

    def test_readings_come_as_often_as_they_like(self):
        self.assertEqual(told(*[("read", 9, 1, 2)] * 3), [[0], [1], [2]])

    def test_not_told_any_more_it_may_be_written_again(self):
        rows = told(("write", 9, 1, 2), ("out", 0), ("open_write", 9, 1), ("out", 0), ("write", 9, 3, 4))
        self.assertEqual(rows, [[0], [0], [0], [0], [0]])


class TooMany(unittest.TestCase):
    def test_the_24th_and_the_25th(self):
        for call in (("write", 40, 1, 2), ("open_write", 40, 1), ("read", 0, 1, 2)):
            rows = told(*writings(23), call)
            self.assertEqual(rows[-1], [23], call)
            rows = told(*writings(24), call)
            self.assertEqual(rows[-2:], [[23], [-28]], call)

    def test_readings_and_open_writings_count_too(self):
        calls = [("read", 0, 1, 1)] * 12 + [("open_write", value, 1) for value in range(1, 13)]
        self.assertEqual(told(*calls, ("write", 40, 1, 1))[-2:], [[23], [-28]])

    def test_there_is_room_again_behind_an_out(self):
        rows = told(*writings(24), ("read", 0, 1, 1), ("out", 3), ("read", 0, 1, 1), ("read", 0, 1, 1))
        self.assertEqual(rows[24:], [[-28], [23], [23], [-28]])

    def test_ended_needs_no_room(self):
        self.assertEqual(told(*writings(23), ("open_write", 40, 5), ("ended", 23, 9))[-1], [0])


class Ended(unittest.TestCase):
    def test_none_such(self):
        self.assertEqual(last(("ended", 0, 5)), [-2])
        self.assertEqual(last(("open_write", 1, 1), ("ended", 1, 5)), [-2])
        self.assertEqual(last(("open_write", 1, 1), ("ended", GREATEST, 5)), [-2])

    def test_not_open(self):
        self.assertEqual(last(("write", 1, 1, 9), ("ended", 0, 5)), [-16])
        self.assertEqual(last(("read", 0, 1, 9), ("ended", 0, 5)), [-16])

    def test_open_no_more(self):
        self.assertEqual(told(("open_write", 1, 3), ("ended", 0, 5), ("ended", 0, 5))[1:], [[0], [-16]])

    def test_the_writing_has_ended_then(self):
        rows = told(("open_write", 1, 3), ("zone", 1), ("ended", 0, 5), ("zone", 1))
        self.assertEqual(rows, [[0], [-2], [0], [0, 3, 5]])

    def test_the_others_stay(self):
        rows = told(("open_write", 1, 3), ("open_write", 2, 4), ("write", 3, 1, 2), ("ended", 1, 8),
                    ("zone", 1), ("zone", 2), ("zone", 3), ORDER)
        self.assertEqual(rows[3:], [[0], [-2], [0, 4, 8], [0, 1, 2], [2, 2, 1]])


class Out(unittest.TestCase):
    def test_none_such(self):
        self.assertEqual(last(("out", 0)), [-2])
        self.assertEqual(last(("write", 1, 1, 1), ("out", 1)), [-2])
        self.assertEqual(last(("write", 1, 1, 1), ("out", GREATEST)), [-2])

    def test_how_many_there_are(self):
        rows = told(*writings(3), ("out", 1), ("out", 1), ("out", 0), ("out", 0))
        self.assertEqual(rows[3:], [[2], [1], [0], [-2]])

    def test_those_behind_are_numbered_one_less(self):
        rows = told(("write", 1, 1, 2), ("write", 2, 5, 6), ("open_write", 3, 9), ("read", 3, 9, 9),
                    ("out", 1), ORDER, ("ended", 1, 12), ("ended", 2, 12), ("write", 2, 20, 21), ORDER)
        self.assertEqual(rows[4:], [[3], [3, 0, 1, 2], [0], [-16], [3], [4, 0, 1, 2, 3]])

    def test_the_first_and_the_last(self):
        calls = [("write", 1, 1, 1), ("write", 2, 2, 2), ("write", 3, 3, 3)]
        self.assertEqual(told(*calls, ("out", 0), ("zone", 1), ("zone", 2), ("zone", 3))[3:],
                         [[2], [-2], [0, 2, 2], [0, 3, 3]])
        self.assertEqual(told(*calls, ("out", 2), ("zone", 1), ("zone", 2), ("zone", 3))[3:],
                         [[2], [0, 1, 1], [0, 2, 2], [-2]])


class TwoRefusals(unittest.TestCase):
    """Where several are due, the one that's told first is answered."""

    def test_of_write(self):
        full = writings(24)
        self.assertEqual(last(*full, ("write", 1, 5, 4)), [-22])
        self.assertEqual(last(*full, ("write", 0, 5, 5)), [-22])
        self.assertEqual(last(*full, ("write", 41, 5, 4)), [-22])
        self.assertEqual(last(*full, ("write", 1, 5, 5)), [-17])
        self.assertEqual(last(("write", 1, 1, 1), ("write", 1, 0, 1)), [-22])

    def test_of_open(self):
        full = writings(24)
        self.assertEqual(last(*full, ("open_write", 1, 0)), [-22])
        self.assertEqual(last(*full, ("open_write", 41, 5)), [-22])
        self.assertEqual(last(*full, ("open_write", 1, 5)), [-17])
        self.assertEqual(last(("write", 1, 1, 1), ("open_write", 1, 1000001)), [-22])

    def test_of_read(self):
        full = writings(24)
        self.assertEqual(last(*full, ("read", 41, 5, 5)), [-22])
        self.assertEqual(last(*full, ("read", 1, 6, 5)), [-22])

    def test_of_ended(self):
        self.assertEqual(last(("ended", 0, 0)), [-2])
        self.assertEqual(last(("open_write", 1, 5), ("ended", 1, 4)), [-2])
        self.assertEqual(last(("write", 1, 5, 6), ("ended", 0, 4)), [-16])
        self.assertEqual(last(("read", 0, 5, 6), ("ended", 0, 1000001)), [-16])


class RefusedChangesNothing(unittest.TestCase):
    def held(self, before, refused):
        plain = told(*before, *probe())
        rows = told(*before, *refused, *probe())
        for row in rows[len(before):len(before) + len(refused)]:
            self.assertEqual(len(row), 1)
            self.assertLess(row[0], 0)
        self.assertEqual(rows[:len(before)] + rows[len(before) + len(refused):], plain)

    def test_with_few(self):
        before = [("write", 1, 5, 9), ("open_write", 2, 8), ("read", 1, 7, 12), ("open_write", 3, 4),
                  ("read", 2, 10, 20), ("read", 0, 3, 4)]
        refused = [
            ("write", 0, 1, 1), ("write", 41, 1, 1), ("write", 4, 0, 1), ("write", 4, 2, 1),
            ("write", 4, 1, 1000001), ("write", 1, 1, 2), ("write", 2, 1, 2), ("open_write", 0, 1),
            ("open_write", 41, 1), ("open_write", 4, 0), ("open_write", 4, 1000001),
            ("open_write", 1, 1), ("open_write", 3, 1), ("read", 41, 1, 1), ("read", 0, 0, 1),
            ("read", 0, 5, 4), ("read", 1, 5, 1000001), ("ended", 6, 9), ("ended", 0, 9),
            ("ended", 2, 9), ("ended", 1, 7), ("ended", 1, 0), ("ended", 1, 1000001), ("out", 6),
            ("out", GREATEST), ("zone", 3), ("zone", 4), ("zone", 41),
            ("before", 0, 3), ("before", 4, 4), ("before", 1, 1), ("without", 6), ("without", GREATEST),
            ("cut", 1000001), ("cut", GREATEST), ("could", 0, 1), ("could", 5, 4), ("could", 5, 1000001),
            ("sure", 1000001), ("sure", GREATEST), ("op", 6), ("op", GREATEST),
        ]
        self.held(before, refused)
        for call in refused:
            self.held(before, [call])

    def test_with_24(self):
        before = writings(22) + [("open_write", 23, 6), ("read", 23, 7, 9)]
        self.held(before, [("write", 40, 1, 1), ("open_write", 40, 1), ("read", 0, 1, 1),
                           ("write", 1, 1, 1), ("ended", 24, 9), ("out", 24), ("without", 24), ("op", 24),
                           ("could", 2, 1), ("cut", 1000001)])

    def test_where_no_moments_can_be_found(self):
        self.held([("write", 1, 1, 2), ("read", 0, 3, 4)], [ORDER, MOMENTS, ("zone", 2)])
        self.held([("read", 1, 3, 4), ("write", 2, 1, 2)], [ORDER, MOMENTS, LATE])

    def test_asking_changes_nothing_either(self):
        before = [("write", 2, 5, 9), ("open_write", 1, 8), ("read", 2, 7, 12), ("read", 1, 3, 9)]
        asked = [KEPT, WHY, ORDER, MOMENTS, ("zone", 0), ("zone", 2), ("before", 1, 2), LATE, ("without", 1), BLAME,
                 SINCE, ("could", 4, 9), ("could", 1, 1), ("sure", 8), ("op", 1), VALUES, STATE]
        for more in ([], [("read", 0, 20, 21)], [("read", 3, 1, 1)], [("read", 1, 1, 2)]):
            plain = told(*before, *more, *probe())
            rows = told(*before, *more, *asked, *probe())
            told_before = len(before) + len(more)
            self.assertEqual(rows[:told_before] + rows[told_before + len(asked):], plain)


if __name__ == "__main__":
    unittest.main()
