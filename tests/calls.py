"""How the tests write calls and look at a desk."""

from captiondesk.captions import answer, answers
from captiondesk.desk import Desk


def load(text):
    if isinstance(text, str):
        text = text.encode("latin-1")
    return [0, len(text)] + list(text)


def add(begin, end, says="x"):
    if isinstance(says, str):
        says = says.encode("latin-1")
    return [1, begin, end, len(says)] + list(says)


def drop(k):
    return [2, k]


def move(*pairs):
    return [3, 2 * len(pairs)] + [number for pair in pairs for number in pair]


def fit(lasts, gap):
    return [4, lasts, gap]


def ask(*calls):
    """The numbers that a new desk answers to calls of which each answers one number."""
    given = answers([number for call in calls for number in call])
    assert given[0::2] == [1] * len(calls), given
    return given[1::2]


def desk_after(*calls):
    """The desk behind these calls."""
    desk = Desk()
    for call in calls:
        answer(desk, call)
    return desk


def written(captions):
    """Captions in a form that's easy to read: begin, end, what it says."""
    return [(begin, end, "".join(map(chr, says))) for begin, end, says in captions]


def seen(*calls):
    """The captions behind these calls."""
    return written(desk_after(*calls).captions)


def state(desk):
    """All that a desk holds, as a copy."""
    return (written(desk.captions), [written(captions) for captions in desk.earlier])


def time(thousandths):
    """A time in the nine bytes that a line tells it by."""
    return f"{thousandths // 60000:02}:{thousandths // 1000 % 60:02}.{thousandths % 1000:03}"


def line(begin, end, says="x"):
    return f"{time(begin)} {time(end)} {says}\n"


def hundred():
    """A text of 100 captions that don't overlap."""
    return "".join(line(10 * k, 10 * k + 5, f"n{k}") for k in range(100))


def check_refused(case, before, call, number):
    """The call is refused with that number, by answers and by a desk, which stays as it was."""
    case.assertEqual(ask(*before, call)[-1], number)
    desk = desk_after(*before)
    held = state(desk)
    case.assertEqual(answer(desk, call), [number])
    case.assertEqual(state(desk), held)


def check_step(case, before, call, number, captions):
    """The call is answered with that number and leaves these captions; how they were is kept."""
    case.assertEqual(ask(*before, call)[-1], number)
    desk = desk_after(*before)
    held = state(desk)
    case.assertEqual(answer(desk, call), [number])
    case.assertEqual(state(desk), (captions, (held[1] + [held[0]])[-16:]))
