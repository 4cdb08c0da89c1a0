"""Whether moments could be found if one operation weren't told, or one more reading were."""

from onemoment.doubts import find_doubt, moments_can_be_found
from onemoment.operations import READING, Operation, writings_by_value


def could_be_found_without(operations, number):
    return moments_can_be_found(operations[:number] + operations[number + 1:])


# Those who show the doubt can't all be true whatever the others tell, so nobody else is to blame.
def find_blamed(operations):
    shown = find_doubt(operations)[1:]
    return [number for number in shown if could_be_found_without(operations, number)]


def could_be_found_with_reading(operations, value, start, end):
    return moments_can_be_found(operations + [Operation(READING, value, start, end)])


# An open writing that nobody read yet may be asked too: the one more reading makes it count.
def values_one_more_could_read(operations, start, end):
    asked = [0] + sorted(writings_by_value(operations))
    return [value for value in asked if could_be_found_with_reading(operations, value, start, end)]
