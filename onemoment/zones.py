"""The values that there are, each with its own operations and the two times that place it among the others."""

from onemoment.operations import is_open, readings_by_value, writings_by_value


class Zone:
    # The writing is None for 0 alone, which stands in the thing without having been written.
    def __init__(self, writing, own, first_end, last_start):
        self.writing = writing
        self.own = own
        self.first_end = first_end
        self.last_start = last_start


def zone_of_zero(operations, readings):
    starts = [operations[number].start for number in readings]
    return Zone(None, readings, 0, max(starts, default=0))


def zone_of_written(operations, writing, readings):
    own = sorted([writing] + readings)
    ends = [operations[number].end for number in own]
    starts = [operations[number].start for number in own]
    return Zone(writing, own, min(ends), max(starts))


# The zones stand by value, the least value first: clashes, orders and what is told of values rely on it.
def find_zones(operations):
    writings = writings_by_value(operations)
    readings = readings_by_value(operations)
    zones = {0: zone_of_zero(operations, readings.get(0, []))}
    for value in sorted(writings):
        writing = writings[value]
        if not is_open(operations[writing]) or value in readings:
            zones[value] = zone_of_written(operations, writing, readings.get(value, []))
    return zones


def must_come_before(zone, other):
    return zone.first_end < other.last_start


def zones_clash(zone, other):
    return must_come_before(zone, other) and must_come_before(other, zone)


# Each pair has its lesser value first, and the pairs stand from the least to the greatest.
def find_clashes(zones):
    present = list(zones)
    clashes = []
    for place, value in enumerate(present):
        for other in present[place + 1:]:
            if zones_clash(zones[value], zones[other]):
                clashes.append((value, other))
    return clashes


def is_sure(zone, time):
    return zone.first_end < time < zone.last_start


def find_sure(zones, time):
    return [value for value in zones if is_sure(zones[value], time)]
