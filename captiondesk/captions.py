"""The calls on one desk, handed in as one list of whole numbers."""

from captiondesk.anchors import pair_up
from captiondesk.desk import Desk

LOAD = 0
ADD = 1
DROP = 2
MAP = 3
FIT = 4
BACK = 5
TELL = 6
SHOWN = 7

# How many numbers each call has, by its number, but for those of its row.
PLAIN_LENGTHS = (2, 4, 2, 2, 3, 1, 2, 2, 1)


def call_length(calls, start):
    """How many numbers the call has that begins there."""
    kind = calls[start]
    length = PLAIN_LENGTHS[kind]
    if kind == LOAD or kind == ADD or kind == MAP:
        # How many numbers the row has is told just ahead of it.
        length += calls[start + length - 1]
    return length


def answer(desk, call):
    """The numbers that the desk answers to one call."""
    kind = call[0]
    if kind == LOAD:
        return [desk.load(call[2:])]
    if kind == ADD:
        return [desk.add(call[1], call[2], call[4:])]
    if kind == DROP:
        return [desk.drop(call[1])]
    if kind == MAP:
        return [desk.move(pair_up(call[2:]))]
    if kind == FIT:
        return [desk.fit(call[1], call[2])]
    if kind == BACK:
        return [desk.back()]
    if kind == TELL:
        return desk.tell(call[1])
    if kind == SHOWN:
        return desk.shown(call[1])
    # No other call is left than 8, clash.
    return [desk.clash()]


def answers(calls):
    """What a new desk answers to the calls: for each how many numbers, then these."""
    desk = Desk()
    given = []
    start = 0
    while start < len(calls):
        behind = start + call_length(calls, start)
        numbers = answer(desk, calls[start:behind])
        given.append(len(numbers))
        given.extend(numbers)
        start = behind
    return given
