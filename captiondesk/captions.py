"""The calls on one desk, handed in as one list of whole numbers."""

from captiondesk.anchors import pair_up
from captiondesk.desk import Desk

LOAD = 0
ADD = 1
DROP = 2
MAP = 3
FIT = 4


def call_length(calls, start):
    """How many numbers the call has that begins there."""
    kind = calls[start]
    if kind == LOAD or kind == MAP:
        return 2 + calls[start + 1]
    if kind == ADD:
        return 4 + calls[start + 3]
    if kind == DROP:
        return 2
    if kind == FIT:
        return 3
    raise NotImplementedError("there is no such call yet")


def answer(desk, call):
    """The numbers that the desk answers to one call."""
    kind = call[0]
    if kind == LOAD:
        return [desk.load(call[2:])]
    if kind == ADD:
        return [desk.add(call[1], call[2], call[4:])]
    if kind == DROP:
        return [desk.drop(call[1])]
    if kind == MAP:
        return [desk.move(pair_up(call[2:]))]
    return [desk.fit(call[1], call[2])]


def answers(calls):
    """What a new desk answers to the calls: for each how many numbers, then these."""
    desk = Desk()
    given = []
    start = 0
    while start < len(calls):
        behind = start + call_length(calls, start)
        numbers = answer(desk, calls[start:behind])
        given.append(len(numbers))
        given.extend(numbers)
        start = behind
    return given
