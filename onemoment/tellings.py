"""The calls on one object, and what each of them answers."""

from onemoment.doubts import find_doubt, moments_can_be_found
from onemoment.operations import LAST_TIME, LAST_VALUE, OPEN_END, OPEN_WRITING, READING, WRITING
from onemoment.operations import Operation, writings_by_value
from onemoment.orders import find_moments, find_order
from onemoment.zones import find_zones

NONE_SUCH = -2
NOT_BEGUN = -11
NOT_OPEN = -16
IS_WRITTEN = -17
NOT_AS_TOLD = -22
TOO_MANY = -28

MOST_OPERATIONS = 24
BEGIN = 0


class Tellings:
    def __init__(self):
        self.begun = False
        self.operations = []

    def has(self, number):
        return number < len(self.operations)

    def is_full(self):
        return len(self.operations) >= MOST_OPERATIONS

    def tell(self, operation):
        self.operations.append(operation)
        return [len(self.operations) - 1]

    def tell_writing(self, operation):
        if operation.value in writings_by_value(self.operations):
            return [IS_WRITTEN]
        if self.is_full():
            return [TOO_MANY]
        return self.tell(operation)


def is_time(time):
    return 1 <= time <= LAST_TIME


def are_times(start, end):
    return is_time(start) and is_time(end) and start <= end


def can_be_written(value):
    return 1 <= value <= LAST_VALUE


def begin(tellings, given):
    tellings.begun = True
    tellings.operations = []
    return [0]


def write(tellings, given):
    value = given[0]
    if not can_be_written(value) or not are_times(given[1], given[2]):
        return [NOT_AS_TOLD]
    return tellings.tell_writing(Operation(WRITING, value, given[1], given[2]))


def open_write(tellings, given):
    value = given[0]
    if not can_be_written(value) or not is_time(given[1]):
        return [NOT_AS_TOLD]
    return tellings.tell_writing(Operation(OPEN_WRITING, value, given[1], OPEN_END))


def read(tellings, given):
    value = given[0]
    if value > LAST_VALUE or not are_times(given[1], given[2]):
        return [NOT_AS_TOLD]
    if tellings.is_full():
        return [TOO_MANY]
    return tellings.tell(Operation(READING, value, given[1], given[2]))


def ended(tellings, given):
    number = given[0]
    time = given[1]
    if not tellings.has(number):
        return [NONE_SUCH]
    operation = tellings.operations[number]
    if operation.kind != OPEN_WRITING:
        return [NOT_OPEN]
    if not are_times(operation.start, time):
        return [NOT_AS_TOLD]
    tellings.operations[number] = Operation(WRITING, operation.value, operation.start, time)
    return [0]


def out(tellings, given):
    if not tellings.has(given[0]):
        return [NONE_SUCH]
    tellings.operations.pop(given[0])
    return [len(tellings.operations)]


def kept(tellings, given):
    return [1 if moments_can_be_found(tellings.operations) else 0]


def why(tellings, given):
    return find_doubt(tellings.operations)


def order(tellings, given):
    if not moments_can_be_found(tellings.operations):
        return [NOT_AS_TOLD]
    found = find_order(tellings.operations)
    return [len(found)] + found


def moments(tellings, given):
    if not moments_can_be_found(tellings.operations):
        return [NOT_AS_TOLD]
    found = find_moments(tellings.operations)
    return [len(found)] + found


def zone(tellings, given):
    zones = find_zones(tellings.operations)
    if given[0] not in zones:
        return [NONE_SUCH]
    first_end = zones[given[0]].first_end
    last_start = zones[given[0]].last_start
    return [1 if first_end < last_start else 0, min(first_end, last_start), max(first_end, last_start)]


# Each call's place here is its number.
CALLS = (begin, write, open_write, read, ended, out, kept, why, order, moments, zone)

# How many whole numbers each call is given, by its number. It goes further than CALLS,
# since ahead of the first begin a call is answered whatever it is.
WIDTHS = (0, 3, 2, 3, 2, 1, 0, 0, 0, 0, 1, 2, 0, 1, 0, 0, 1, 2, 1, 1, 0, 0)


def answer(tellings, number, given):
    if number != BEGIN and not tellings.begun:
        return [NOT_BEGUN]
    if number >= len(CALLS):
        raise NotImplementedError(f"call {number}")
    call = CALLS[number]
    return call(tellings, given)


def answers(calls):
    tellings = Tellings()
    answered = []
    place = 0
    while place < len(calls):
        number = calls[place]
        behind = place + 1 + WIDTHS[number]
        told = answer(tellings, number, calls[place + 1:behind])
        answered.append(len(told))
        answered.extend(told)
        place = behind
    return answered
