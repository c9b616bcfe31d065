"""Captions as the lines of a text tell them: read and written.

A caption is a tuple: when it begins, when it ends, and the bytes that it says, as a tuple.
"""

from captiondesk.limits import MOST_CAPTIONS

LINE_END = 10
BLANK = 32
LAST_SIGN = 126
DIGIT_ZERO = 48
DIGIT_NINE = 57
MOST_SAID = 80
MOST_SECONDS = 59
TIME_FORM = "dd:dd.ddd"


def text_lines(text):
    """The lines of a text, each a list of bytes without its line end."""
    lines = []
    line = []
    for byte in text:
        if byte == LINE_END:
            lines.append(line)
            line = []
        else:
            line.append(byte)
    if len(line) > 0:
        lines.append(line)
    return lines


def time_digits(told):
    """The seven digits of a told time; None if it hasn't the form of one."""
    if len(told) != len(TIME_FORM):
        return None
    digits = []
    for byte, form in zip(told, TIME_FORM):
        if form == "d":
            if byte < DIGIT_ZERO or byte > DIGIT_NINE:
                return None
            digits.append(byte - DIGIT_ZERO)
        elif byte != ord(form):
            return None
    return digits


def read_time(told):
    """A told time in thousandths of a second; None if it's no time."""
    digits = time_digits(told)
    if digits is None:
        return None
    minutes = 10 * digits[0] + digits[1]
    seconds = 10 * digits[2] + digits[3]
    thousandths = 100 * digits[4] + 10 * digits[5] + digits[6]
    if seconds > MOST_SECONDS:
        return None
    return 1000 * (60 * minutes + seconds) + thousandths


def can_say(says):
    """Whether a caption can say these bytes."""
    if len(says) < 1 or len(says) > MOST_SAID:
        return False
    if says[0] == BLANK or says[-1] == BLANK:
        return False
    return min(says) >= BLANK and max(says) <= LAST_SIGN


def read_caption(line):
    """The caption that a line tells; None if the line isn't as it must be."""
    begin = read_time(line[:9])
    end = read_time(line[10:19])
    says = line[20:]
    if begin is None or end is None or begin >= end:
        return None
    if line[9:10] != [BLANK] or line[19:20] != [BLANK]:
        return None
    if not can_say(says):
        return None
    return (begin, end, tuple(says))


def read_text(text):
    """The captions that are told above the first wrong line, and that line's number, 0 if none is wrong."""
    captions = []
    for number, line in enumerate(text_lines(text), start=1):
        if len(line) > 0:
            caption = read_caption(line)
            if caption is None or len(captions) == MOST_CAPTIONS:
                return (captions, number)
            captions.append(caption)
    return (captions, 0)


def write_time(time):
    """The nine bytes that tell a time."""
    minutes = str(time // 60000).zfill(2)
    seconds = str(time // 1000 % 60).zfill(2)
    thousandths = str(time % 1000).zfill(3)
    return [ord(sign) for sign in f"{minutes}:{seconds}.{thousandths}"]


def write_said(captions):
    """What the captions say, a line each."""
    text = []
    for caption in captions:
        text.extend(caption[2])
        text.append(LINE_END)
    return text


def write_text(captions):
    """The text that tells these captions, a line each."""
    text = []
    for caption in captions:
        text.extend(write_time(caption[0]))
        text.append(BLANK)
        text.extend(write_time(caption[1]))
        text.append(BLANK)
        text.extend(write_said([caption]))
    return text
