"""Times of frames: hours, minutes, seconds and frames, also where numbers of frames are left out."""

from filmcuts.limits import MOST_FRAMES
from filmcuts.refusals import WRONG_NUMBER

# By the kind of time.
FRAMES_A_SECOND = (24, 25, 30, 30)
LAST_KIND = 3
LAST_HOUR = 99

# By this kind the first two numbers of a minute are left out, but of each tenth minute: so of ten minutes, which
# begin with a whole one, nine are short.
LEAVING_OUT = 3
LEFT_OUT = 2
WHOLE_MINUTE = 1800
SHORT_MINUTE = 1798
TEN_MINUTES = 17982


def short_minutes_to(frame):
    """How many of the minutes begun by the frame, its own too, are short ones."""
    short = 9 * (frame // TEN_MINUTES)
    rest = frame % TEN_MINUTES
    if rest >= WHOLE_MINUTE:
        short += 1 + (rest - WHOLE_MINUTE) // SHORT_MINUTE
    return short


def time_of(kind, frame):
    """1 and the frame's hours, minutes, seconds and frames; or the refusal."""
    if kind > LAST_KIND or frame > MOST_FRAMES:
        return [WRONG_NUMBER]
    number = frame
    if kind == LEAVING_OUT:
        number += LEFT_OUT * short_minutes_to(frame)
    seconds = number // FRAMES_A_SECOND[kind]
    minutes = seconds // 60
    return [1, minutes // 60, minutes % 60, seconds % 60, number % FRAMES_A_SECOND[kind]]


def is_left_out(kind, m, sec, f):
    return kind == LEAVING_OUT and m % 10 != 0 and sec == 0 and f < LEFT_OUT


def is_wrong_time(kind, h, m, sec, f):
    if kind > LAST_KIND or h > LAST_HOUR or m > 59 or sec > 59:
        return True
    return f >= FRAMES_A_SECOND[kind] or is_left_out(kind, m, sec, f)


def frame_of(kind, h, m, sec, f):
    """The frame that has this time; or the refusal."""
    if is_wrong_time(kind, h, m, sec, f):
        return WRONG_NUMBER
    minutes = 60 * h + m
    number = (60 * minutes + sec) * FRAMES_A_SECOND[kind] + f
    if kind == LEAVING_OUT:
        number -= LEFT_OUT * (minutes - minutes // 10)
    return number
