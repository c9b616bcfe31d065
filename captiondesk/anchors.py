"""How times go by anchors, which are pairs: a time, and the time that it's to go to."""

from captiondesk.limits import TIME_END

MOST_ANCHORS = 16


def pair_up(numbers):
    """The pairs of a list in which the two numbers of each stand one behind another."""
    return [(numbers[k], numbers[k + 1]) for k in range(0, len(numbers), 2)]


def both_rise(one, other):
    """Whether the other anchor is later than the one, on both sides."""
    return one[0] < other[0] and one[1] < other[1]


def are_anchors(pairs):
    """Whether these pairs may be anchors."""
    if len(pairs) > MOST_ANCHORS:
        return False
    for source, target in pairs:
        if source >= TIME_END or target >= TIME_END:
            return False
    return all([both_rise(pairs[k], pairs[k + 1]) for k in range(len(pairs) - 1)])


def divide_to_nearest(number, by):
    """The whole number nearest to number / by, a half up; by is above 0."""
    # Python's // goes down below 0 too, so that a half goes up on both sides of 0.
    return (2 * number + by) // (2 * by)


def leading_anchor(time, anchors):
    """Which of two anchors or more is the first of the two neighbours that a time goes by."""
    leading = 0
    # The last anchor leads no pair: what's behind it goes by the last two.
    for k in range(len(anchors) - 1):
        if anchors[k][0] <= time:
            leading = k
    return leading


def goes_to(time, anchors):
    """Where a time goes; that may be below 0, or too late."""
    if len(anchors) == 0:
        return time
    if len(anchors) == 1:
        return time + anchors[0][1] - anchors[0][0]
    k = leading_anchor(time, anchors)
    source_span = anchors[k + 1][0] - anchors[k][0]
    target_span = anchors[k + 1][1] - anchors[k][1]
    return anchors[k][1] + divide_to_nearest((time - anchors[k][0]) * target_span, source_span)
