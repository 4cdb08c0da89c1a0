"""The calls on one object, and what each of them answers."""

from onemoment.doubts import FROM_NOWHERE, TOO_EARLY, find_doubt, moments_can_be_found
from onemoment.known import first_time_of_doubt, known_at
from onemoment.lateness import least_amount
from onemoment.operations import LAST_TIME, LAST_VALUE, READING, WRITING
from onemoment.operations import Operation, four_numbers, is_open, open_writing, writings_by_value
from onemoment.orders import find_moments, find_order
from onemoment.supposed import could_be_found_without, find_blamed, values_one_more_could_read
from onemoment.zones import find_sure, find_zones, must_come_before

NONE_SUCH = -2
NOT_BEGUN = -11
NOT_OPEN = -16
IS_WRITTEN = -17
NOT_AS_TOLD = -22
TOO_MANY = -28

MOST_OPERATIONS = 24
BEGIN = 0


class Tellings:
    def __init__(self):
        self.begun = False
        self.operations = []

    def has(self, number):
        return number < len(self.operations)

    def is_full(self):
        return len(self.operations) >= MOST_OPERATIONS

    def tell(self, operation):
        self.operations.append(operation)
        return [len(self.operations) - 1]

    def tell_writing(self, operation):
        if operation.value in writings_by_value(self.operations):
            return [IS_WRITTEN]
        if self.is_full():
            return [TOO_MANY]
        return self.tell(operation)


def is_time(time):
    return 1 <= time <= LAST_TIME


def are_times(start, end):
    return is_time(start) and is_time(end) and start <= end


def can_be_written(value):
    return 1 <= value <= LAST_VALUE


def yes_or_no(holds):
    return 1 if holds else 0


def counted(found):
    return [len(found)] + found


def begin(tellings, given):
    tellings.begun = True
    tellings.operations = []
    return [0]


def write(tellings, given):
    value = given[0]
    if not can_be_written(value) or not are_times(given[1], given[2]):
        return [NOT_AS_TOLD]
    return tellings.tell_writing(Operation(WRITING, value, given[1], given[2]))


def open_write(tellings, given):
    value = given[0]
    if not can_be_written(value) or not is_time(given[1]):
        return [NOT_AS_TOLD]
    return tellings.tell_writing(open_writing(value, given[1]))


def read(tellings, given):
    value = given[0]
    if value > LAST_VALUE or not are_times(given[1], given[2]):
        return [NOT_AS_TOLD]
    if tellings.is_full():
        return [TOO_MANY]
    return tellings.tell(Operation(READING, value, given[1], given[2]))


def ended(tellings, given):
    number = given[0]
    time = given[1]
    if not tellings.has(number):
        return [NONE_SUCH]
    operation = tellings.operations[number]
    if not is_open(operation):
        return [NOT_OPEN]
    if not are_times(operation.start, time):
        return [NOT_AS_TOLD]
    tellings.operations[number] = Operation(WRITING, operation.value, operation.start, time)
    return [0]


def out(tellings, given):
    if not tellings.has(given[0]):
        return [NONE_SUCH]
    tellings.operations.pop(given[0])
    return [len(tellings.operations)]


def kept(tellings, given):
    return [yes_or_no(moments_can_be_found(tellings.operations))]


def why(tellings, given):
    return find_doubt(tellings.operations)


def order(tellings, given):
    if not moments_can_be_found(tellings.operations):
        return [NOT_AS_TOLD]
    return counted(find_order(tellings.operations))


def moments(tellings, given):
    if not moments_can_be_found(tellings.operations):
        return [NOT_AS_TOLD]
    return counted(find_moments(tellings.operations))


def zone(tellings, given):
    zones = find_zones(tellings.operations)
    if given[0] not in zones:
        return [NONE_SUCH]
    first_end = zones[given[0]].first_end
    last_start = zones[given[0]].last_start
    return [yes_or_no(first_end < last_start), min(first_end, last_start), max(first_end, last_start)]


def before(tellings, given):
    zones = find_zones(tellings.operations)
    value = given[0]
    other = given[1]
    if value not in zones or other not in zones:
        return [NONE_SUCH]
    if value == other:
        return [NOT_AS_TOLD]
    return [yes_or_no(must_come_before(zones[value], zones[other])),
            yes_or_no(must_come_before(zones[other], zones[value]))]


def late(tellings, given):
    if find_doubt(tellings.operations)[0] in (FROM_NOWHERE, TOO_EARLY):
        return [NOT_AS_TOLD]
    return [least_amount(tellings.operations)]


def without(tellings, given):
    if not tellings.has(given[0]):
        return [NONE_SUCH]
    return [yes_or_no(could_be_found_without(tellings.operations, given[0]))]


def blame(tellings, given):
    return counted(find_blamed(tellings.operations))


def since(tellings, given):
    return [first_time_of_doubt(tellings.operations)]


def cut(tellings, given):
    if given[0] > LAST_TIME:
        return [NOT_AS_TOLD]
    tellings.operations = known_at(tellings.operations, given[0])
    return [len(tellings.operations)]


# The one more reading is only supposed, so there is room for it also where 24 are told.
def could(tellings, given):
    if not are_times(given[0], given[1]):
        return [NOT_AS_TOLD]
    return counted(values_one_more_could_read(tellings.operations, given[0], given[1]))


def sure(tellings, given):
    if given[0] > LAST_TIME:
        return [NOT_AS_TOLD]
    return counted(find_sure(find_zones(tellings.operations), given[0]))


def op(tellings, given):
    if not tellings.has(given[0]):
        return [NONE_SUCH]
    return [0] + four_numbers(tellings.operations[given[0]])


def values_there_are(tellings, given):
    return counted(list(find_zones(tellings.operations)))


def state(tellings, given):
    told = [len(tellings.operations)]
    for operation in tellings.operations:
        told.extend(four_numbers(operation))
    return told


# Each call's place here is its number.
CALLS = (
    begin, write, open_write, read, ended, out, kept, why, order, moments, zone,
    before, late, without, blame, since, cut, could, sure, op, values_there_are, state,
)

# How many whole numbers each call is given, by its number.
WIDTHS = (0, 3, 2, 3, 2, 1, 0, 0, 0, 0, 1, 2, 0, 1, 0, 0, 1, 2, 1, 1, 0, 0)


def answer(tellings, number, given):
    if number != BEGIN and not tellings.begun:
        return [NOT_BEGUN]
    call = CALLS[number]
    return call(tellings, given)


def answers(calls):
    tellings = Tellings()
    answered = []
    place = 0
    while place < len(calls):
        number = calls[place]
        behind = place + 1 + WIDTHS[number]
        told = answer(tellings, number, calls[place + 1:behind])
        answered.append(len(told))
        answered.extend(told)
        place = behind
    return answered
