"""Minutes, counted from the night's beginning, and their texts."""

from doughhours.errors import BadTime

NIGHT = 720
STEP = 5
WIDEST = 120
MOST_WAYS = 2000

HOUR = 60
FIGURES = "0123456789"


def clock(minute):
    hours = minute // HOUR
    rest = str(minute % HOUR).zfill(2)
    return f"{hours}:{rest}"


def is_figures(text):
    # int alone would let blanks, signs and underscores through.
    return text != "" and all([sign in FIGURES for sign in text])


def minute_of(text):
    parts = text.split(":")
    if len(parts) != 2 or not is_figures(parts[0]) or not is_figures(parts[1]):
        raise BadTime(f"{text!r} is not hours, a colon and minutes")
    minute = int(parts[0]) * HOUR + int(parts[1])
    # A minute has one text alone: this refuses noughts ahead and minutes from 60 on.
    if clock(minute) != text:
        raise BadTime(f"{text!r} is not the text of a minute")
    return minute
