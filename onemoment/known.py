"""What's known at a time, and since when moments can't be found any more."""

from onemoment.doubts import moments_can_be_found
from onemoment.operations import is_open, is_reading, open_writing


def known_at(operations, time):
    known = []
    for operation in operations:
        if operation.start > time:
            continue
        if operation.end <= time:
            known.append(operation)
        elif not is_reading(operation):
            known.append(open_writing(operation.value, operation.start))
    return known


# A doubt first comes with an end. What only begins is an open writing, and the readings that would make
# it count have ended earlier: they were from nowhere already.
def times_of_ends(operations):
    return sorted(set([operation.end for operation in operations if not is_open(operation)]))


def first_time_of_doubt(operations):
    for time in times_of_ends(operations):
        if not moments_can_be_found(known_at(operations, time)):
            return time
    return 0
