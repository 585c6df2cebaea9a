"""Calls on one film, one behind another in a list of whole numbers, and what is answered to them."""

from filmcuts.film import Film
from filmcuts.pieces import Piece
from filmcuts.refusals import DONE
from filmcuts.times import frame_of
from filmcuts.times import time_of


def answer_begin(film, given):
    return [film.begin()]


def answer_source(film, given):
    return [film.add_source(given[0], given[1])]


def answer_over(film, given):
    return [film.over(given[0], given[1], Piece(given[2], given[3], given[4]))]


def answer_between(film, given):
    return [film.between(given[0], given[1], Piece(given[2], given[3], given[4]))]


def answer_lift(film, given):
    return [film.lift(given[0], given[1], given[2])]


def answer_out(film, given):
    return [film.out(given[0], given[1])]


def answer_cut(film, given):
    return [film.cut(given[0], given[1])]


def answer_slip(film, given):
    return [film.slip(given[0], given[1], given[2])]


def answer_roll(film, given):
    return [film.roll(given[0], given[1], given[2])]


def answer_slide(film, given):
    return [film.slide(given[0], given[1], given[2])]


def answer_longer(film, given):
    return [film.longer(given[0], given[1], given[2])]


def answer_undo(film, given):
    return [film.undo()]


def answer_redo(film, given):
    return [film.redo()]


def answer_seen(film, given):
    return film.seen(given[0], given[1])


def answer_piece(film, given):
    return film.piece(given[0], given[1])


def answer_length(film, given):
    return [film.longest()]


def answer_time(film, given):
    return time_of(given[0], given[1])


def answer_frame(film, given):
    return [frame_of(given[0], given[1], given[2], given[3], given[4])]


def answer_write(film, given):
    return [DONE] + film.write()


def answer_read(film, given):
    return [film.read(given)]


# How many numbers a call has of which the list itself says how many they are.
COUNTED = -1

# By the call's number: what answers it, and how many numbers are handed to it.
CALLS = {
    0: (answer_begin, 0),
    1: (answer_source, 2),
    2: (answer_over, 5),
    3: (answer_between, 5),
    4: (answer_lift, 3),
    5: (answer_out, 2),
    6: (answer_cut, 2),
    7: (answer_slip, 3),
    8: (answer_roll, 3),
    9: (answer_slide, 3),
    10: (answer_longer, 3),
    11: (answer_undo, 0),
    12: (answer_redo, 0),
    13: (answer_seen, 2),
    14: (answer_piece, 2),
    15: (answer_length, 0),
    16: (answer_time, 2),
    17: (answer_frame, 5),
    18: (answer_write, 0),
    19: (answer_read, -1),
}


def answer_all(film, calls):
    """Call the film as the list says: for each call how many numbers are answered, and these."""
    told = []
    place = 0
    while place < len(calls):
        handler = CALLS[calls[place]][0]
        count = CALLS[calls[place]][1]
        place += 1
        if count == COUNTED:
            count = calls[place]
            place += 1
        answer = handler(film, calls[place:place + count])
        told.append(len(answer))
        told.extend(answer)
        place += count
    return told


def answers(calls):
    """What is answered to the calls on one new film."""
    return answer_all(Film(), calls)
