"""How the tests write lines of calls, read their answers, and know the right ones without the program.

What is right is worked out here straight from the document's words, slowly, on lists of
(kind, value, start, end); nothing of the program is used for it but `answers` itself.
"""

import random

from onemoment.tellings import answers

NUMBERS = {
    "begin": 0, "write": 1, "open_write": 2, "read": 3, "ended": 4, "out": 5,
    "kept": 6, "why": 7, "order": 8, "moments": 9, "zone": 10, "before": 11,
    "late": 12, "without": 13, "blame": 14, "since": 15, "cut": 16, "could": 17,
    "sure": 18, "op": 19, "values": 20, "state": 21,
}

# How many numbers each call is given.
GIVEN = {
    "begin": 0, "write": 3, "open_write": 2, "read": 3, "ended": 2, "out": 1,
    "kept": 0, "why": 0, "order": 0, "moments": 0, "zone": 1, "before": 2,
    "late": 0, "without": 1, "blame": 0, "since": 0, "cut": 1, "could": 2,
    "sure": 1, "op": 1, "values": 0, "state": 0,
}

BEGIN = ("begin",)
KEPT = ("kept",)
WHY = ("why",)
ORDER = ("order",)
MOMENTS = ("moments",)
LATE = ("late",)
BLAME = ("blame",)
SINCE = ("since",)
VALUES = ("values",)
STATE = ("state",)

LAST_TIME = 1000000
OPEN_END = 1000001
KINDS = {"read": 0, "write": 1, "open_write": 2}


def encode(calls):
    line = []
    for call in calls:
        line.append(NUMBERS[call[0]])
        line.extend(call[1:])
    return line


def split(answered):
    rows = []
    place = 0
    while place < len(answered):
        behind = place + 1 + answered[place]
        rows.append(answered[place + 1:behind])
        place = behind
    if place != len(answered):
        raise ValueError("the answers stop in the middle of a row")
    return rows


def run(*calls):
    """Each call's answer as a list of numbers."""
    rows = split(answers(encode(calls)))
    if len(rows) != len(calls):
        raise ValueError(f"{len(calls)} calls, {len(rows)} answers")
    return rows


def told(*calls):
    """The answers behind a begin, without that of the begin."""
    return run(BEGIN, *calls)[1:]


def last(*calls):
    """The last call's answer, behind a begin."""
    return run(BEGIN, *calls)[-1]


# All that the calls show of what is told, and then what room there is behind it.
def probe():
    calls = [STATE, VALUES, KEPT, WHY, ORDER, MOMENTS, LATE, BLAME, SINCE, ("sure", 5), ("could", 5, 6)]
    calls.extend([("zone", value) for value in range(42)])
    calls.extend([("op", number) for number in range(25)])
    calls.extend([("ended", number, 1000000) for number in range(25)])
    calls.extend([WHY, ORDER, MOMENTS])
    calls.extend([("zone", value) for value in range(42)])
    for number in range(25):
        calls.extend([("out", 0), WHY, ORDER, MOMENTS])
    return calls


# --- operations as the document tells them -------------------------------------------


def as_calls(operations):
    calls = []
    for kind, value, start, end in operations:
        if kind == "open_write":
            calls.append((kind, value, start))
        else:
            calls.append((kind, value, start, end))
    return calls


def counting(operations):
    """The numbers of those who count."""
    read = {value for kind, value, _, _ in operations if kind == "read"}
    return [n for n, (kind, value, _, _) in enumerate(operations)
            if kind != "open_write" or value in read]


def writer_of(operations, value):
    for number, operation in enumerate(operations):
        if operation[0] != "read" and operation[1] == value:
            return number
    return None


def present(operations):
    """The values that there are."""
    count = counting(operations)
    return sorted({0} | {operations[n][1] for n in count if operations[n][0] != "read"})


def own(operations, value):
    return [n for n in counting(operations) if operations[n][1] == value]


def first_end(operations, value):
    if value == 0:
        return 0
    return min(operations[n][3] for n in own(operations, value))


def last_beginning(operations, value):
    return max([operations[n][2] for n in own(operations, value)] + [0])


def must_before(operations, value, other):
    return first_end(operations, value) < last_beginning(operations, other)


def right_why(operations):
    readings = [n for n, operation in enumerate(operations) if operation[0] == "read"]
    for n in readings:
        if operations[n][1] != 0 and writer_of(operations, operations[n][1]) is None:
            return [1, n]
    for n in readings:
        writer = writer_of(operations, operations[n][1])
        if writer is not None and operations[n][3] < operations[writer][2]:
            return [2] + sorted([n, writer])
    pairs = [(a, b) for a in present(operations) for b in present(operations)
             if a < b and must_before(operations, a, b) and must_before(operations, b, a)]
    if not pairs:
        return [0]
    shown = set()
    for value in min(pairs):
        mine = own(operations, value)
        shown.add(min(n for n in mine if operations[n][2] == last_beginning(operations, value)))
        if value != 0:
            shown.add(min(n for n in mine if operations[n][3] == first_end(operations, value)))
            shown.add(writer_of(operations, value))
    return [3] + sorted(shown)


def right_order(operations):
    if right_why(operations) != [0]:
        return None
    left = present(operations)
    found = []
    while left:
        value = min(v for v in left if not any(must_before(operations, u, v) for u in left if u != v))
        left.remove(value)
        mine = own(operations, value)
        found.extend(n for n in mine if operations[n][0] != "read")
        found.extend(sorted((n for n in mine if operations[n][0] == "read"),
                            key=lambda n: (operations[n][2], n)))
    return found


def right_zone(operations, value):
    if value not in present(operations):
        return [-2]
    two = [first_end(operations, value), last_beginning(operations, value)]
    return [1 if two[0] < two[1] else 0] + sorted(two)


def right_before(operations, value, other):
    if value not in present(operations) or other not in present(operations):
        return [-2]
    if value == other:
        return [-22]
    return [int(must_before(operations, value, other)), int(must_before(operations, other, value))]


def right_sure(operations, time):
    if time > LAST_TIME:
        return [-22]
    found = [value for value in present(operations)
             if first_end(operations, value) < time and last_beginning(operations, value) > time]
    return [len(found)] + found


def begun_earlier(operations, amount):
    return [(kind, value, max(0, start - amount) if kind == "read" else start, end)
            for kind, value, start, end in operations]


def right_late(operations):
    if right_why(operations)[0] in (1, 2):
        return [-22]
    # Only where a beginning comes to stand at an end, or at 0, does anything become otherwise.
    ends = [operation[3] for operation in operations] + [0]
    starts = [operation[2] for operation in operations if operation[0] == "read"]
    amounts = {0} | {start - end for start in starts for end in ends if start > end}
    return [min(amount for amount in amounts if right_why(begun_earlier(operations, amount)) == [0])]


def all_but(operations, number):
    return [operation for n, operation in enumerate(operations) if n != number]


def right_without(operations, number):
    if number >= len(operations):
        return [-2]
    return [int(right_why(all_but(operations, number)) == [0])]


def right_blame(operations):
    if right_why(operations) == [0]:
        return [0]
    found = [n for n in range(len(operations)) if right_without(operations, n) == [1]]
    return [len(found)] + found


def known_at(operations, time):
    known = []
    for kind, value, start, end in operations:
        if start > time or (kind == "read" and end > time):
            continue
        if kind != "read" and end > time:
            known.append(("open_write", value, start, OPEN_END))
        else:
            known.append((kind, value, start, end))
    return known


def right_since(operations):
    # Between these times nobody begins or ends, so what's known stays the same.
    times = {time for operation in operations for time in operation[2:] if time <= LAST_TIME}
    doubted = [time for time in times if right_why(known_at(operations, time)) != [0]]
    return [min(doubted, default=0)]


def right_could(operations, start, end):
    if not 1 <= start <= end <= LAST_TIME:
        return [-22]
    written = sorted(operation[1] for operation in operations if operation[0] != "read")
    found = [value for value in [0] + written
             if right_why(operations + [("read", value, start, end)]) == [0]]
    return [len(found)] + found


def four(operation):
    kind, value, start, end = operation
    return [KINDS[kind], value, start, 0 if kind == "open_write" else end]


def right_op(operations, number):
    return [0] + four(operations[number]) if number < len(operations) else [-2]


def right_state(operations):
    return [len(operations)] + [number for operation in operations for number in four(operation)]


# --- what holds, without zones or clashes ---------------------------------------------


def some_order_explains(operations):
    """Searches all orders of those who count, giving an order up as soon as it is broken."""
    count = counting(operations)
    seen = set()

    def extends(placed, value):
        if len(placed) == len(count):
            return True
        if (placed, value) in seen:
            return False
        seen.add((placed, value))
        for n in count:
            if n in placed:
                continue
            kind, its_value, start, _ = operations[n]
            # Somebody left would stand behind n though n began after they had ended.
            if any(operations[m][3] < start for m in count if m not in placed and m != n):
                continue
            if kind == "read" and its_value != value:
                continue
            if extends(placed | {n}, its_value):
                return True
        return False

    return extends(frozenset(), 0)


def order_faults(operations, order):
    """In how many ways an order goes against the words of what holds."""
    faults = []
    if sorted(order) != counting(operations):
        faults.append("not all who count, each once")
    for place, number in enumerate(order):
        for behind in order[place + 1:]:
            if operations[number][2] > operations[behind][3]:
                faults.append(f"{behind} stands behind {number}, which began after it had ended")
    value = 0
    for number in order:
        if operations[number][0] != "read":
            value = operations[number][1]
        elif operations[number][1] != value:
            faults.append(f"{number} was told what wasn't written last")
    return faults


# --- drawn inputs ------------------------------------------------------------------------


def draw_operations(draw, most, values, times):
    """Anything that may be told, sensible or not."""
    operations = []
    unwritten = list(range(1, values + 1))
    for _ in range(draw.randint(0, most)):
        start = draw.randint(1, times)
        end = draw.randint(start, times)
        kind = draw.choice(["write", "open_write", "read", "read"])
        if kind == "read":
            operations.append((kind, draw.randint(0, values), start, end))
        elif unwritten:
            value = unwritten.pop(draw.randrange(len(unwritten)))
            operations.append((kind, value, start, OPEN_END if kind == "open_write" else end))
    return operations


def draw_true_operations(draw, most, times, stretch):
    """Such as were done in one moment each, so that moments can be found."""
    moment = 1
    value = 0
    unwritten = draw.sample(range(1, 41), 40)
    operations = []
    for _ in range(draw.randint(0, most)):
        moment = min(times, moment + draw.randint(0, 3))
        start = max(1, moment - draw.randint(0, stretch))
        end = min(times, moment + draw.randint(0, stretch))
        kind = draw.choice(["write", "open_write", "read", "read", "read"])
        if kind != "read":
            value = unwritten.pop()
        operations.append((kind, value, start, OPEN_END if kind == "open_write" else end))
    draw.shuffle(operations)
    return operations


def drawn(seed, how_many, most=6, values=3, times=7):
    draw = random.Random(seed)
    return [draw_operations(draw, most, values, times) for _ in range(how_many)]


def drawn_true(seed, how_many, most=24, times=60, stretch=6):
    draw = random.Random(seed)
    return [draw_true_operations(draw, most, times, stretch) for _ in range(how_many)]
