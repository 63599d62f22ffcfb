"""What each call does to a yard, and the numbers that it answers.

Each refusal comes ahead of every change, so that all is as it was behind it.
"""

from caryard.layout import taken_cells
from caryard.layout import with_place
from caryard.search import fewest_moves
from caryard.search import ways

# Refusals, without the sign that sets them apart from all that is answered otherwise.
NOT_IN_RANGE = 1
NO_SUCH_CAR = 2
NO_MORE_CARS = 5
CANNOT_BE = 6

MOST_LINES = 5
MOST_CARS = 5
LEAST_LENGTH = 2
MOST_LENGTH = 5


def refused(reason):
    return [-reason]


def begin(yard, rows, columns):
    if not 1 <= rows <= MOST_LINES or not 1 <= columns <= MOST_LINES:
        return refused(NOT_IN_RANGE)
    yard.begin(rows, columns)
    return [rows * columns]


def fits(yard, upright, line, place, length):
    """Whether a car so told is all in the yard."""
    if upright > 1 or not LEAST_LENGTH <= length <= MOST_LENGTH:
        return False
    return line < yard.many_lines(upright) and place + length <= yard.line_cells(upright)


def add_car(yard, upright, line, place, length):
    if not fits(yard, upright, line, place, length):
        return refused(NOT_IN_RANGE)
    if len(yard.tracks) == MOST_CARS:
        return refused(NO_MORE_CARS)
    track = yard.new_track(upright, line, length)
    if track[place] & taken_cells(yard.tracks, yard.places):
        return refused(CANNOT_BE)
    yard.tracks.append(track)
    yard.places = yard.places + (place,)
    return [len(yard.tracks) - 1]


def move_car(yard, car, place):
    if car >= len(yard.tracks):
        return refused(NO_SUCH_CAR)
    track = yard.tracks[car]
    stands_at = yard.places[car]
    others = taken_cells(yard.tracks, yard.places) ^ track[stands_at]
    if place not in ways(track, stands_at, others):
        return refused(CANNOT_BE)
    yard.places = with_place(yard.places, car, place)
    yard.moves_made = yard.moves_made + 1
    return [yard.moves_made, len(yard.places)] + list(yard.places)


def want_car(yard, car, place):
    if car >= len(yard.tracks):
        return refused(NO_SUCH_CAR)
    if place >= len(yard.tracks[car]):
        return refused(NOT_IN_RANGE)
    yard.wanted[car] = place
    return [len(yard.wanted)]


def free_car(yard, car):
    if car >= len(yard.tracks):
        return refused(NO_SUCH_CAR)
    yard.wanted.pop(car, None)
    return [len(yard.wanted)]


def count_fewest(yard):
    moves = fewest_moves(yard.tracks, yard.places, yard.wanted)
    if moves is None:
        return refused(CANNOT_BE)
    return [moves]
