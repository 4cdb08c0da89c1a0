"""The interface: one list in, one list out, nothing kept and nothing changed."""

import unittest

from onemoment.tellings import answers
from tests.helper import (
    BEGIN, BLAME, GIVEN, KEPT, LATE, MOMENTS, NUMBERS, ORDER, SINCE, STATE, VALUES, WHY, encode, run,
)

# Each of the calls at least once, and some that are refused.
EVERY = [
    KEPT, STATE, BEGIN, ("write", 1, 2, 3), ("open_write", 2, 3), ("read", 2, 4, 5), ("ended", 1, 9), ("read", 0, 8, 9),
    ("write", 2, 1, 1), KEPT, WHY, LATE, BLAME, SINCE, ("without", 3), ("could", 4, 5), ORDER, ("out", 3), KEPT, ORDER,
    MOMENTS, ("zone", 2), ("zone", 9), ("before", 1, 2), ("before", 2, 2), ("sure", 4), ("sure", 1000001),
    ("could", 4, 9), ("op", 1), ("op", 3), VALUES, STATE, ("cut", 8), STATE, VALUES, ("cut", 1000001), ("without", 0),
]


class Form(unittest.TestCase):
    def test_how_many_numbers_then_these(self):
        line = [0, 1, 7, 3, 4, 3, 7, 5, 6, 6, 7, 8, 9, 10, 7, 10, 0, 10, 8, 5, 1, 2, 9, 6, 4, 1, 5, 5, 9]
        right = [1, 0, 1, 0, 1, 1, 1, 1, 1, 0, 3, 2, 0, 1, 3, 2, 3, 5, 3, 1, 4, 5, 3, 0, 0, 0, 1, -2, 1, 1,
                 1, 1, 1, -22, 1, -2]
        self.assertEqual(answers(line), right)

    def test_doubt(self):
        self.assertEqual(answers([0, 1, 7, 3, 4, 3, 0, 5, 6, 6, 7, 8, 9]),
                         [1, 0, 1, 0, 1, 1, 1, 0, 3, 3, 0, 1, 1, -22, 1, -22])

    def test_the_calls_11_to_21(self):
        line = [0, 1, 7, 3, 4, 3, 0, 6, 9, 11, 0, 7, 12, 13, 0, 14, 15, 17, 1, 2, 18, 5, 19, 1, 20, 21]
        right = [1, 0, 1, 0, 1, 1, 2, 1, 1, 1, 2, 1, 1, 3, 2, 0, 1, 1, 9, 1, 0, 2, 1, 0, 5, 0, 0, 0, 6, 9,
                 3, 2, 0, 7, 9, 2, 1, 7, 3, 4, 0, 0, 6, 9]
        self.assertEqual(answers(line), right)
        line = [0, 1, 7, 3, 4, 2, 9, 5, 16, 3, 21, 17, 3, 9, 20, 14, 15, 12]
        right = [1, 0, 1, 0, 1, 1, 1, 1, 5, 1, 2, 7, 3, 0, 3, 2, 0, 7, 2, 1, 0, 1, 0, 1, 0, 1, 0]
        self.assertEqual(answers(line), right)

    def test_refusals_of_the_calls_11_to_21(self):
        line = [0, 11, 0, 1, 11, 0, 0, 13, 0, 16, 1000001, 17, 0, 1, 18, 1000001, 19, 0, 3, 1, 1, 1, 12]
        right = [1, 0, 1, -2, 1, -22, 1, -2, 1, -22, 1, -22, 1, -22, 1, -2, 1, 0, 1, -22]
        self.assertEqual(answers(line), right)

    def test_nobody(self):
        self.assertEqual(answers([0, 6, 7, 8, 9, 10, 0]), [1, 0, 1, 1, 1, 0, 1, 0, 1, 0, 3, 0, 0, 0])

    def test_a_list_of_whole_numbers(self):
        self.assertEqual({call[0] for call in EVERY}, set(NUMBERS))
        answered = answers(encode(EVERY))
        self.assertIs(type(answered), list)
        for number in answered:
            self.assertIs(type(number), int)


class AheadOfBegin(unittest.TestCase):
    def test_each_call_is_answered_by_11(self):
        for name, width in GIVEN.items():
            if name != "begin":
                self.assertEqual(run((name,) + (1,) * width), [[-11]], name)

    def test_whatever_else_is_due(self):
        for name, width in GIVEN.items():
            if name != "begin":
                self.assertEqual(run((name,) + (0,) * width), [[-11]], name)
                self.assertEqual(run((name,) + (4294967295,) * width), [[-11]], name)

    def test_one_behind_another_and_nothing_is_told(self):
        calls = [(name,) + (1,) * width for name, width in GIVEN.items() if name != "begin"]
        rows = run(*calls, BEGIN, ("zone", 1), ("out", 0), ORDER, ("write", 1, 1, 1))
        self.assertEqual(rows, [[-11]] * len(calls) + [[0], [-2], [-2], [0], [0]])


    def test_a_begin_in_the_middle(self):
        # Each call ahead of the begin, behind it, and behind another one, where nothing is told any more.
        for name, width in GIVEN.items():
            if name == "begin":
                continue
            call = (name,) + (1,) * width
            rows = run(call, BEGIN, call, ("read", 0, 5, 6), BEGIN, call)
            self.assertEqual(rows[:2], [[-11], [0]], name)
            self.assertNotEqual(rows[2], [-11], name)
            self.assertEqual(rows[4], [0], name)
            self.assertEqual(rows[5], rows[2], name)


class NothingKept(unittest.TestCase):
    line = encode(EVERY)

    def test_what_was_handed_in_stays_as_it_was(self):
        line = list(self.line)
        answers(line)
        self.assertEqual(line, self.line)

    def test_what_was_handed_in_is_not_changed_for_a_while_either(self):
        class Watched(list):
            def refuse(self, *given):
                raise RuntimeError("changed")

            append = extend = insert = pop = remove = clear = sort = reverse = refuse
            __setitem__ = __delitem__ = __iadd__ = __imul__ = refuse

        self.assertEqual(answers(Watched(self.line)), answers(self.line))

    def test_a_second_time_answers_as_the_first(self):
        self.assertEqual(answers(self.line), answers(self.line))

    def test_the_object_is_new_each_time(self):
        answers(self.line)
        self.assertEqual(answers([6]), [1, -11])
        self.assertEqual(answers([0, 10, 1]), [1, 0, 1, -2])
        self.assertEqual(answers([21, 0, 21]), [1, -11, 1, 0, 1, 0])

    def test_what_is_given_back_is_the_caller_s(self):
        first = answers(self.line)
        right = list(first)
        first.clear()
        self.assertEqual(answers(self.line), right)


class Longest(unittest.TestCase):
    def test_400_calls(self):
        calls = [BEGIN] + [("write", value, 1, 1000000) for value in range(24, 0, -1)] + [ORDER] * 375
        rows = run(*calls)
        self.assertEqual(len(rows), 400)
        self.assertEqual(rows[25:], [[24] + list(range(23, -1, -1))] * 375)

    def test_400_calls_of_each(self):
        # 12 values, each read behind all the others: every two of them clash.
        calls = [BEGIN] + [("write", value, value, value) for value in range(1, 13)]
        calls += [("read", value, 100, 200 + value) for value in range(12, 0, -1)]
        right = {
            "before": [1, 1], "late": [98], "without": [0], "blame": [0], "since": [201], "cut": [24], "could": [0],
            "sure": [12, *range(1, 13)], "op": [0, 0, 3, 100, 203], "values": [13, *range(13)],
        }
        given = {
            "before": (3, 7), "without": (5,), "cut": (1000000,), "could": (1, 1000000), "sure": (50,), "op": (21,),
        }
        for name, answer in right.items():
            rows = run(*calls, *[(name, *given.get(name, ()))] * 375)
            self.assertEqual(rows[25:], [answer] * 375, name)
        rows = run(*calls, *[STATE] * 375)
        self.assertEqual(rows[25][:5], [24, 1, 1, 1, 1])
        self.assertEqual({len(row) for row in rows[25:]}, {97})

    def test_1600_numbers(self):
        calls = [("write", 1, 1, 1)] * 400
        self.assertEqual(len(encode(calls)), 1600)
        self.assertEqual(run(*calls), [[-11]] * 400)


if __name__ == "__main__":
    unittest.main()
