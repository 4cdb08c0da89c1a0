"""Whole lines of all the calls, against an object kept by the document's words; and what holds h."""

import itertools
import random
import unittest

from onemoment.tellings import answers
from tests.helper import (
    BEGIN, NUMBERS, as_calls, draw_true_operations, encode, known_at, present, probe, right_before, right_blame,
    right_could, right_late, right_op, right_order, right_since, right_state, right_sure, right_why,
    right_without, right_zone, run, split,
)


class Model:
    """One object by the document's words. Each call has a method here, of its name."""

    def __init__(self):
        self.begun = False
        self.told = []

    def answer(self, call):
        if call[0] != "begin" and not self.begun:
            return [-11]
        return getattr(self, call[0])(*call[1:])

    def begin(self):
        self.begun = True
        self.told = []
        return [0]

    def add(self, kind, value, start, end):
        if value not in range(0 if kind == "read" else 1, 41) or start not in range(1, 1000001):
            return [-22]
        if kind != "open_write" and end not in range(start, 1000001):
            return [-22]
        if kind != "read" and any(o[0] != "read" and o[1] == value for o in self.told):
            return [-17]
        if len(self.told) == 24:
            return [-28]
        self.told.append((kind, value, start, end))
        return [len(self.told) - 1]

    def write(self, value, start, end):
        return self.add("write", value, start, end)

    def open_write(self, value, start):
        return self.add("open_write", value, start, 1000001)

    def read(self, value, start, end):
        return self.add("read", value, start, end)

    def ended(self, number, time):
        if number not in range(len(self.told)):
            return [-2]
        kind, value, start, _ = self.told[number]
        if kind != "open_write":
            return [-16]
        if time not in range(start, 1000001):
            return [-22]
        self.told[number] = ("write", value, start, time)
        return [0]

    def out(self, number):
        if number not in range(len(self.told)):
            return [-2]
        self.told.pop(number)
        return [len(self.told)]

    def kept(self):
        return [1 if right_why(self.told) == [0] else 0]

    def why(self):
        return right_why(self.told)

    def order(self):
        right = right_order(self.told)
        return [-22] if right is None else [len(right)] + right

    def moments(self):
        right = right_order(self.told)
        if right is None:
            return [-22]
        starts = [self.told[number][2] for number in right]
        return [len(right)] + list(itertools.accumulate(starts, max))

    def zone(self, value):
        return right_zone(self.told, value)

    def before(self, value, other):
        return right_before(self.told, value, other)

    def late(self):
        return right_late(self.told)

    def without(self, number):
        return right_without(self.told, number)

    def blame(self):
        return right_blame(self.told)

    def since(self):
        return right_since(self.told)

    def cut(self, time):
        if time > 1000000:
            return [-22]
        self.told = known_at(self.told, time)
        return [len(self.told)]

    def could(self, start, end):
        return right_could(self.told, start, end)

    def sure(self, time):
        return right_sure(self.told, time)

    def op(self, number):
        return right_op(self.told, number)

    def values(self):
        right = present(self.told)
        return [len(right)] + right

    def state(self):
        return right_state(self.told)


TELLING = ["write", "open_write", "read", "read", "ended"]
ASKING = [name for name in NUMBERS if name not in TELLING + ["begin", "out", "cut"]]
GREATEST = 4294967295


class Drawing:
    """Draws lines on the values up to `values` and the times up to `times`, with what is out of bounds
    among them. `losing` is how often much is lost. Where `true` is told, the first operations of a line are
    such as were done in one moment each."""

    def __init__(self, seed, values, times, losing, true=False):
        self.draw = random.Random(seed)
        self.values = range(values + 1)
        self.times = times
        self.losing = losing
        self.true = true
        self.ready = []

    def time(self):
        odd = self.draw.randrange(25)
        if odd < 2:
            return self.draw.choice([0, 1000001, GREATEST])
        if odd == 2:
            return self.draw.choice([1, 999999, 1000000])
        return self.draw.randint(1, self.times)

    def start_and_end(self):
        two = [self.time(), self.time()]
        if self.draw.randrange(10):
            two.sort()
        return two

    def value(self):
        return self.draw.choice([0, 40, 41, GREATEST] if self.draw.randrange(20) == 0 else self.values)

    def number(self):
        return self.draw.choice([24, GREATEST] if self.draw.randrange(30) == 0 else range(24))

    def name(self):
        if self.draw.randrange(150) < self.losing:
            return self.draw.choice(["begin", "cut", "cut", "out", "out", "out"])
        return self.draw.choice(self.draw.choice([TELLING, ASKING]))

    def call(self):
        name = self.name()
        if name in TELLING and self.ready:
            return self.ready.pop()
        if name in ("write", "read"):
            return (name, self.value(), *self.start_and_end())
        if name == "open_write":
            return (name, self.value(), self.time())
        if name == "ended":
            return (name, self.number(), self.time())
        if name in ("out", "without", "op"):
            return (name, self.number())
        if name in ("cut", "sure"):
            return (name, self.time())
        if name == "could":
            return (name, *self.start_and_end())
        if name == "zone":
            return (name, self.value())
        if name == "before":
            return (name, self.value(), self.value())
        return (name,)

    def line(self, how_many):
        if self.true:
            operations = draw_true_operations(self.draw, 24, self.times, self.times // 8)
            self.values = [operation[1] for operation in operations] + [0, 1]
            self.ready = as_calls(operations)
        calls = [self.call() for _ in range(how_many - 1)]
        # Mostly at the beginning, so that much is answered by more than -11.
        calls.insert(self.draw.choice([0, 0, 0, 1, 7]), BEGIN)
        return calls


DRAWN = (
    Drawing(7, 7, 12, 12), Drawing(8, 4, 8, 25), Drawing(9, 40, 30, 1), Drawing(10, 20, 1000000, 3),
    Drawing(11, 40, 24, 1, true=True), Drawing(12, 40, 60, 5, true=True), Drawing(13, 40, 60, 0, true=True),
)
LENGTHS = (1, 2, 9, 400, 399, *range(10, 100, 3), *[200] * 5)
LINES = [drawing.line(how_many) for drawing in DRAWN for how_many in LENGTHS]


def right_answers(calls):
    model = Model()
    return [model.answer(call) for call in calls]


class AsTold(unittest.TestCase):
    @classmethod
    def setUpClass(cls):
        cls.right = [right_answers(calls) for calls in LINES]

    def test_each_answer(self):
        for calls, right in zip(LINES, self.right):
            self.assertEqual(run(*calls), right, calls)

    def test_the_lines_ask_enough(self):
        refused = set()
        nothing = dict.fromkeys(NUMBERS, 0)
        more = dict.fromkeys(NUMBERS, 0)
        for calls, right in zip(LINES, self.right):
            for call, answer in zip(calls, right):
                refused.add(min(answer[0], 0))
                nothing[call[0]] += answer[0] == 0
                more[call[0]] += answer[0] > 0
        self.assertEqual(sorted(refused), [-28, -22, -17, -16, -11, -2, 0])
        for name in NUMBERS:
            if name != "values":
                self.assertGreater(nothing[name], 3, name)
            if name not in ("begin", "ended", "op"):
                self.assertGreater(more[name], 40, name)
        self.assertGreater(sum(answer[:1] == [24] for right in self.right for answer in right), 40)

    def test_the_encoding(self):
        for calls, right in zip(LINES, self.right):
            flat = []
            for answer in right:
                flat.append(len(answer))
                flat.extend(answer)
            self.assertEqual(answers(encode(calls)), flat, calls)

    def test_the_list_is_as_it_was_and_a_second_time_answers_the_same(self):
        for calls in LINES:
            line = encode(calls)
            first = answers(line)
            self.assertEqual(line, encode(calls))
            self.assertEqual(answers(line), first)
            self.assertEqual(line, encode(calls))

    def test_lists_reach_the_bounds(self):
        self.assertLessEqual(max(len(encode(calls)) for calls in LINES), 1600)
        self.assertEqual({min(map(len, LINES)), max(map(len, LINES))}, {1, 400})

    def test_nothing_below_0_but_a_refusal_alone(self):
        for calls in LINES:
            for row in split(answers(encode(calls))):
                self.assertTrue(min(row) >= 0 or (len(row) == 1 and row[0] in (-2, -11, -16, -17, -22, -28)), row)


class WhatIsRefusedChangesNothing(unittest.TestCase):
    def test_as_if_it_had_not_been_called(self):
        for calls in LINES:
            if len(calls) > 100:
                continue
            rows = run(*calls)
            taken = [call for call, row in zip(calls, rows) if row[0] >= 0]
            right = [row for row in rows if row[0] >= 0]
            self.assertEqual(run(*taken), right, calls)
            self.assertEqual(run(*calls, *probe())[len(calls):], run(*taken, *probe())[len(taken):], calls)

    def test_what_only_asks_changes_nothing_either(self):
        for calls in LINES:
            rows = run(*calls)
            telling = [n for n, call in enumerate(calls) if call[0] not in ASKING]
            self.assertEqual(run(*[calls[n] for n in telling]), [rows[n] for n in telling], calls)


if __name__ == "__main__":
    unittest.main()
