"""What is told of the thing: readings, writings and open writings."""

READING = 0
WRITING = 1
OPEN_WRITING = 2

LAST_VALUE = 40
LAST_TIME = 1000000
# Later than every time that can be told: nobody knows when an open writing was done.
OPEN_END = 1000001


class Operation:
    def __init__(self, kind, value, start, end):
        self.kind = kind
        self.value = value
        self.start = start
        self.end = end


def open_writing(value, start):
    return Operation(OPEN_WRITING, value, start, OPEN_END)


def is_reading(operation):
    return operation.kind == READING


def is_open(operation):
    return operation.kind == OPEN_WRITING


def writings_by_value(operations):
    found = {}
    for number, operation in enumerate(operations):
        if not is_reading(operation):
            found[operation.value] = number
    return found


def readings_by_value(operations):
    found = {}
    for number, operation in enumerate(operations):
        if is_reading(operation):
            found.setdefault(operation.value, []).append(number)
    return found


# The end of an open writing isn't known, so 0 is told in its place.
def four_numbers(operation):
    end = 0 if is_open(operation) else operation.end
    return [operation.kind, operation.value, operation.start, end]
