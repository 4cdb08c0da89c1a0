"""By how much every reading must have begun earlier, so that moments can be found."""

from onemoment.zones import find_clashes, find_zones


# None if no amount is enough: readings alone begin earlier, and the writing began too late already.
def amount_to_free(operations, zone, other):
    if other.writing is not None and operations[other.writing].start > zone.first_end:
        return None
    return other.last_start - zone.first_end


# One way at least has an amount: where no reading is too early a writing began at its value's first end
# or before, so of two writings not each can have begun behind the other value's first end.
def amount_to_part(operations, zone, other):
    ways = [amount_to_free(operations, zone, other), amount_to_free(operations, other, zone)]
    return min([amount for amount in ways if amount is not None])


# Asked only where nothing is from nowhere or too early. Ends stay as they are, and beginnings only
# become earlier, so no new clash comes up and each of those there are is parted by itself.
def least_amount(operations):
    zones = find_zones(operations)
    amounts = [amount_to_part(operations, zones[pair[0]], zones[pair[1]]) for pair in find_clashes(zones)]
    return max(amounts, default=0)
