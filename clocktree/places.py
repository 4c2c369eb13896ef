"""Places and areas along streets, told by sum and difference, in parts.

A place is (sum, difference). An area is (least sum, greatest sum, least difference, greatest difference).
"""

PARTS = 256


def in_parts(number):
    return number * PARTS


def apart(place, other):
    """How far it is along streets from one place to another."""
    return max(abs(place[0] - other[0]), abs(place[1] - other[1]))


def area_of_place(place):
    return (place[0], place[0], place[1], place[1])


def gap(low, high, other_low, other_high):
    return max(0, other_low - high, low - other_high)


def areas_apart(area, other):
    """How far the two nearest places of two areas are from one another."""
    sums = gap(area[0], area[1], other[0], other[1])
    differences = gap(area[2], area[3], other[2], other[3])
    return max(sums, differences)


def area_within(area, reach, other, other_reach):
    """All places within reach of the one area and within the other reach of the other."""
    return (
        max(area[0] - reach, other[0] - other_reach),
        min(area[1] + reach, other[1] + other_reach),
        max(area[2] - reach, other[2] - other_reach),
        min(area[3] + reach, other[3] + other_reach),
    )


def clamped(number, low, high):
    return max(low, min(number, high))


def nearest_place(area, place):
    return (clamped(place[0], area[0], area[1]), clamped(place[1], area[2], area[3]))
