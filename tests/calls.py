"""How the tests write calls and look at a desk."""

from captiondesk.captions import answer, answers
from captiondesk.desk import Desk


def load(text):
    if isinstance(text, str):
        text = text.encode("latin-1")
    return [0, len(text)] + list(text)


def add(begin, end, says="x"):
    if isinstance(says, str):
        says = says.encode("latin-1")
    return [1, begin, end, len(says)] + list(says)


def drop(k):
    return [2, k]


def move(*pairs):
    return [3, 2 * len(pairs)] + strung(*pairs)


def fit(lasts, gap):
    return [4, lasts, gap]


def back():
    return [5]


def tell(most=4294967295):
    return [6, most]


def shown(at):
    return [7, at]


def clash():
    return [8]


def strung(*calls):
    """Calls as the one list that's handed in."""
    return [number for call in calls for number in call]


def replies(*calls):
    """For each call on a new desk the list of the numbers that are answered."""
    given = answers(strung(*calls))
    found = []
    start = 0
    for call in calls:
        behind = start + 1 + given[start]
        assert given[start] >= 1 and behind <= len(given), given
        found.append(given[start + 1:behind])
        start = behind
    assert start == len(given), given
    return found


def ask(*calls):
    """The numbers that a new desk answers to calls of which each answers one number."""
    found = replies(*calls)
    assert all(len(numbers) == 1 for numbers in found), found
    return [numbers[0] for numbers in found]


def counted(text):
    """What's answered where a text is: how many bytes it has, then these."""
    return [len(text)] + [ord(sign) for sign in text]


def text_of(numbers):
    """The text of an answer that is one, its count held against it."""
    assert numbers[0] == len(numbers) - 1, numbers
    return "".join(map(chr, numbers[1:]))


def told(*calls):
    """The captions behind these calls, written."""
    return text_of(replies(*calls, tell())[-1])


def desk_after(*calls):
    """The desk behind these calls."""
    desk = Desk()
    for call in calls:
        answer(desk, call)
    return desk


def written(captions):
    """Captions in a form that's easy to read: begin, end, what it says."""
    return [(begin, end, "".join(map(chr, says))) for begin, end, says in captions]


def seen(*calls):
    """The captions behind these calls."""
    return written(desk_after(*calls).captions)


def state(desk):
    """All that a desk holds, as a copy."""
    return (written(desk.captions), [written(captions) for captions in desk.earlier])


def time(thousandths):
    """A time in the nine bytes that a line tells it by."""
    return f"{thousandths // 60000:02}:{thousandths // 1000 % 60:02}.{thousandths % 1000:03}"


def line(begin, end, says="x"):
    return f"{time(begin)} {time(end)} {says}\n"


def hundred():
    """A text of 100 captions that don't overlap."""
    return "".join(line(10 * k, 10 * k + 5, f"n{k}") for k in range(100))


def check_refused(case, before, call, number):
    """The call is refused with that number alone, and the desk stays as it was."""
    check_answer(case, before, call, [number])


def check_answer(case, before, call, numbers):
    """The call, which is no step, answers these numbers, and the desk stays as it was."""
    case.assertEqual(replies(*before, call)[-1], numbers)
    desk = desk_after(*before)
    held = state(desk)
    case.assertEqual(answer(desk, call), numbers)
    case.assertEqual(state(desk), held)


def check_step(case, before, call, number, captions):
    """The call is answered with that number and leaves these captions; how they were is kept."""
    case.assertEqual(replies(*before, call)[-1], [number])
    desk = desk_after(*before)
    held = state(desk)
    case.assertEqual(answer(desk, call), [number])
    case.assertEqual(state(desk), (captions, (held[1] + [held[0]])[-16:]))
