"""The desk: captions in order, and how they were before the last steps."""

from captiondesk.anchors import are_anchors, goes_to
from captiondesk.fitting import fit_times
from captiondesk.limits import MOST_CAPTIONS, TIME_END
from captiondesk.lines import can_say, read_text, write_said, write_text

NOT_THERE = -2
NO_ROOM = -12
NOT_ALLOWED = -22
TOO_LONG = -28
CANNOT_BE = -33
WRONG_LINE = -1000

MOST_TEXT = 16384
MOST_STEPS = 16


def when(caption):
    """What captions are put in order by."""
    return (caption[0], caption[1])


def in_order(captions):
    """The captions in order; those alike in time stay as they stood."""
    return sorted(captions, key=when)


def may_be_shown(caption):
    """Whether a caption's times are as a line could tell them."""
    return 0 <= caption[0] and caption[0] < caption[1] and caption[1] < TIME_END


def is_shown(caption, at):
    """Whether a caption is shown at that time."""
    return caption[0] <= at and at < caption[1]


def with_count(text):
    """How many bytes a text has, then these."""
    return [len(text)] + text


class Desk:
    """Each call answers a number, but tell and shown a list: a number, then bytes.

    A number below 0 is a refusal, and then nothing has changed.
    """

    def __init__(self):
        self.captions = []
        self.earlier = []

    def take_step(self, captions):
        """Put these captions in the place of all, and keep how they were."""
        # The lists are never changed in place, so that those kept stay as they were.
        kept = self.earlier + [self.captions]
        self.earlier = kept[-MOST_STEPS:]
        self.captions = captions

    def load(self, text):
        if len(text) > MOST_TEXT:
            return NOT_ALLOWED
        read = read_text(text)
        wrong = read[1]
        if wrong > 0:
            return WRONG_LINE - wrong
        self.take_step(in_order(read[0]))
        return len(self.captions)

    def add(self, begin, end, says):
        caption = (begin, end, tuple(says))
        if not may_be_shown(caption) or not can_say(says):
            return NOT_ALLOWED
        if len(self.captions) >= MOST_CAPTIONS:
            return NO_ROOM
        place = len([other for other in self.captions if when(other) <= when(caption)])
        self.take_step(self.captions[:place] + [caption] + self.captions[place:])
        return place

    def drop(self, k):
        if k >= len(self.captions):
            return NOT_THERE
        self.take_step(self.captions[:k] + self.captions[k + 1:])
        return len(self.captions)

    def move(self, anchors):
        if not are_anchors(anchors):
            return NOT_ALLOWED
        moved = [(goes_to(begin, anchors), goes_to(end, anchors), says) for begin, end, says in self.captions]
        if not all([may_be_shown(caption) for caption in moved]):
            return CANNOT_BE
        self.take_step(in_order(moved))
        return len(self.captions)

    def fit(self, lasts, gap):
        if lasts == 0 or lasts >= TIME_END or gap >= TIME_END:
            return NOT_ALLOWED
        wishes = []
        for caption in self.captions:
            wishes.extend(when(caption))
        fitted = fit_times(wishes, lasts, gap)
        if fitted is None:
            return CANNOT_BE
        times = fitted[0]
        # Each fitted caption begins later than the one before, so they are in order as they stand.
        self.take_step([(times[2 * k], times[2 * k + 1], caption[2]) for k, caption in enumerate(self.captions)])
        return fitted[1]

    def back(self):
        if len(self.earlier) == 0:
            return NOT_THERE
        self.captions = self.earlier[-1]
        self.earlier = self.earlier[:-1]
        return len(self.earlier)

    def tell(self, most):
        text = write_text(self.captions)
        if len(text) > most:
            return [TOO_LONG]
        return with_count(text)

    def shown(self, at):
        return with_count(write_said([caption for caption in self.captions if is_shown(caption, at)]))

    def clash(self):
        all_gone = 0
        for k, caption in enumerate(self.captions):
            if caption[0] < all_gone:
                return k
            all_gone = max(all_gone, caption[1])
        return NOT_THERE
