"""Calls on one film, one behind another in a list of whole numbers, and what is answered to them."""

from filmcuts.film import Film
from filmcuts.pieces import Piece


def answer_begin(film, given):
    return [film.begin()]


def answer_source(film, given):
    return [film.add_source(given[0], given[1])]


def answer_over(film, given):
    return [film.over(given[0], given[1], Piece(given[2], given[3], given[4]))]


def answer_between(film, given):
    return [film.between(given[0], given[1], Piece(given[2], given[3], given[4]))]


def answer_lift(film, given):
    return [film.lift(given[0], given[1], given[2])]


def answer_out(film, given):
    return [film.out(given[0], given[1])]


def answer_cut(film, given):
    return [film.cut(given[0], given[1])]


def answer_slip(film, given):
    return [film.slip(given[0], given[1], given[2])]


def answer_roll(film, given):
    return [film.roll(given[0], given[1], given[2])]


def answer_slide(film, given):
    return [film.slide(given[0], given[1], given[2])]


# By the call's number: what answers it, and how many numbers are handed to it.
CALLS = {
    0: (answer_begin, 0),
    1: (answer_source, 2),
    2: (answer_over, 5),
    3: (answer_between, 5),
    4: (answer_lift, 3),
    5: (answer_out, 2),
    6: (answer_cut, 2),
    7: (answer_slip, 3),
    8: (answer_roll, 3),
    9: (answer_slide, 3),
}


def answer_all(film, calls):
    """Call the film as the list says: for each call how many numbers are answered, and these."""
    told = []
    place = 0
    while place < len(calls):
        handler = CALLS[calls[place]][0]
        end = place + 1 + CALLS[calls[place]][1]
        answer = handler(film, calls[place + 1:end])
        told.append(len(answer))
        told.extend(answer)
        place = end
    return told


def answers(calls):
    """What is answered to the calls on one new film."""
    return answer_all(Film(), calls)
