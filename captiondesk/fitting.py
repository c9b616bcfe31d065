"""Times fitted to what's wished.

The times are one list: a beginning, its end, the next beginning, and so on.
Each has a floor: the earliest that it can be, as the first can't be before 0 and each needs its room
behind the one before. A time less its floor is its level. So "so much behind the one before, or more"
comes to "no lower a level than the one before", whatever the room, and all levels lie from 0 to a highest one.
"""

from captiondesk.limits import TIME_END


def floors(count, lasts, gap):
    """The earliest that each of so many times can be."""
    found = []
    floor = 0
    for k in range(count):
        found.append(floor)
        floor += lasts if k % 2 == 0 else gap
    return found


def least_greatest_shift(levels, highest):
    """The least that the greatest shift can be when the levels may not fall and lie from 0 to the highest."""
    shift = 0
    peak = levels[0]
    for level in levels:
        peak = max(peak, level)
        # Where a level lies below one before it, the two have to meet: one of them goes half the way or more.
        meeting = (peak - level + 1) // 2
        shift = max(shift, meeting, 0 - level, level - highest)
    return shift


def ceilings(levels, highest, shift):
    """How high each level may be so that it and those behind it can be, with no greater shift."""
    found = []
    ceiling = highest
    for level in reversed(levels):
        ceiling = min(ceiling, level + shift)
        found.append(ceiling)
    return list(reversed(found))


def nearest_levels(levels, highest, shift):
    """Levels that don't fall, each in its turn as near to the wished one as can be, with no greater shift."""
    found = []
    before = 0
    for level, ceiling in zip(levels, ceilings(levels, highest, shift)):
        # Ceilings don't fall, so what's before is never above this one.
        before = max(before, min(level, ceiling))
        found.append(before)
    return found


def fit_times(wishes, lasts, gap):
    """The times fitted to the wishes and the least greatest shift; None if no times may be so."""
    if len(wishes) == 0:
        return ([], 0)
    earliest = floors(len(wishes), lasts, gap)
    highest = TIME_END - 1 - earliest[-1]
    if highest < 0:
        return None
    levels = [wish - floor for wish, floor in zip(wishes, earliest)]
    shift = least_greatest_shift(levels, highest)
    fitted = nearest_levels(levels, highest, shift)
    return ([level + floor for level, floor in zip(fitted, earliest)], shift)
