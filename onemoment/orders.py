"""An order of all who count, and a moment for each, where moments can be found."""

from onemoment.zones import find_zones, must_come_before


def is_free(zones, value, left):
    for other in left:
        if other != value and must_come_before(zones[other], zones[value]):
            return False
    return True


def least_free(zones, left):
    for value in left:
        if is_free(zones, value, left):
            return value
    return None


# Where no two values clash there is no ring of more values either, so one of those left is always free.
def order_of_values(zones):
    left = list(zones)
    order = []
    while left:
        value = least_free(zones, left)
        order.append(value)
        left.remove(value)
    return order


def readings_as_they_begin(operations, zone):
    readings = [number for number in zone.own if number != zone.writing]
    return sorted(readings, key=lambda number: (operations[number].start, number))


def find_order(operations):
    zones = find_zones(operations)
    order = []
    for value in order_of_values(zones):
        zone = zones[value]
        if zone.writing is not None:
            order.append(zone.writing)
        order.extend(readings_as_they_begin(operations, zone))
    return order


def find_moments(operations):
    moments = []
    moment = 0
    for number in find_order(operations):
        moment = max(moment, operations[number].start)
        moments.append(moment)
    return moments
