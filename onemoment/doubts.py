"""Why moments can't be found: the first thing that stands against them, and the operations that show it."""

from onemoment.operations import is_reading, writings_by_value
from onemoment.zones import find_clashes, find_zones

NO_DOUBT = 0
FROM_NOWHERE = 1
TOO_EARLY = 2
CLASH = 3


def show_from_nowhere(operations, writings):
    for number, operation in enumerate(operations):
        if is_reading(operation) and operation.value != 0 and operation.value not in writings:
            return [number]
    return []


def show_too_early(operations, writings):
    for number, operation in enumerate(operations):
        if is_reading(operation) and operation.value in writings:
            writing = writings[operation.value]
            if operation.end < operations[writing].start:
                return sorted([number, writing])
    return []


# With these alone the value keeps its first end and its last beginning, so it still clashes.
def holders(operations, zone):
    starting = [number for number in zone.own if operations[number].start == zone.last_start]
    if zone.writing is None:
        return [starting[0]]
    ending = [number for number in zone.own if operations[number].end == zone.first_end]
    return [ending[0], starting[0], zone.writing]


def show_clash(operations):
    zones = find_zones(operations)
    clashes = find_clashes(zones)
    if not clashes:
        return []
    first = clashes[0]
    return sorted(set(holders(operations, zones[first[0]]) + holders(operations, zones[first[1]])))


def find_doubt(operations):
    writings = writings_by_value(operations)
    shown = show_from_nowhere(operations, writings)
    if shown:
        return [FROM_NOWHERE] + shown
    shown = show_too_early(operations, writings)
    if shown:
        return [TOO_EARLY] + shown
    shown = show_clash(operations)
    if shown:
        return [CLASH] + shown
    return [NO_DOUBT]


def moments_can_be_found(operations):
    return find_doubt(operations)[0] == NO_DOUBT
