"""The bounds that more than one part of the desk keeps to."""

# Times are thousandths of a second; this is the first that nine bytes can't tell.
TIME_END = 6000000

MOST_CAPTIONS = 100
