"""What each call does to a yard, and the numbers that it answers.

Each refusal comes ahead of every change, so that all is as it was behind it.
"""

from caryard.layout import taken_cells
from caryard.layout import with_place
from caryard.search import count_arrangements
from caryard.search import first_plan
from caryard.search import moves_by_arrangement
from caryard.search import moves_needed
from caryard.search import ways

# Refusals, without the sign that sets them apart from all that is answered otherwise.
NOT_IN_RANGE = 1
NO_SUCH_CAR = 2
NO_MORE_CARS = 5
CANNOT_BE = 6

MOST_LINES = 5
MOST_CARS = 5
LEAST_LENGTH = 2
MOST_LENGTH = 5


def refused(reason):
    return [-reason]


def listed(numbers):
    """A list as it is told: behind how many numbers it has."""
    return [len(numbers)] + list(numbers)


def begin(yard, rows, columns):
    if not 1 <= rows <= MOST_LINES or not 1 <= columns <= MOST_LINES:
        return refused(NOT_IN_RANGE)
    yard.begin(rows, columns)
    return [rows * columns]


def fits(yard, upright, line, place, length):
    """Whether a car so told is all in the yard."""
    if upright > 1 or not LEAST_LENGTH <= length <= MOST_LENGTH:
        return False
    return line < yard.many_lines(upright) and place + length <= yard.line_cells(upright)


def add_car(yard, upright, line, place, length):
    if not fits(yard, upright, line, place, length):
        return refused(NOT_IN_RANGE)
    if len(yard.tracks) == MOST_CARS:
        return refused(NO_MORE_CARS)
    track = yard.new_track(upright, line, length)
    if track[place] & taken_cells(yard.tracks, yard.places):
        return refused(CANNOT_BE)
    yard.take_in(upright, line, length, place)
    return [len(yard.tracks) - 1]


def move_car(yard, car, place):
    if car >= len(yard.tracks):
        return refused(NO_SUCH_CAR)
    track = yard.tracks[car]
    stands_at = yard.places[car]
    others = taken_cells(yard.tracks, yard.places) ^ track[stands_at]
    if place not in ways(track, stands_at, others):
        return refused(CANNOT_BE)
    yard.places = with_place(yard.places, car, place)
    yard.moves_made = yard.moves_made + 1
    return [yard.moves_made] + listed(yard.places)


def want_car(yard, car, place):
    if car >= len(yard.tracks):
        return refused(NO_SUCH_CAR)
    if place >= len(yard.tracks[car]):
        return refused(NOT_IN_RANGE)
    # A car that was wanted already is told last now, so it leaves where it stood.
    yard.wanted.pop(car, None)
    yard.wanted[car] = place
    return [len(yard.wanted)]


def free_car(yard, car):
    if car >= len(yard.tracks):
        return refused(NO_SUCH_CAR)
    yard.wanted.pop(car, None)
    return [len(yard.wanted)]


def moves_about(yard):
    """Of each arrangement that can come about, the moves that can be made in it."""
    if yard.known_moves is None:
        yard.known_moves = moves_by_arrangement(yard.tracks, yard.places)
    return yard.known_moves


def needed_about(yard):
    """Of each arrangement that can come about, how many moves it needs; empty if there is no plan."""
    return moves_needed(moves_about(yard), yard.wanted)


def count_fewest(yard):
    needed = needed_about(yard)
    if not needed:
        return refused(CANNOT_BE)
    return [needed[yard.places]]


def tell_plan(yard):
    needed = needed_about(yard)
    if not needed:
        return refused(CANNOT_BE)
    told = []
    for car, place, after in first_plan(moves_about(yard), needed, yard.places):
        told.extend([car, place])
    return [needed[yard.places]] + listed(told)


def tell_reach(yard):
    return [len(moves_about(yard))] + listed([count_arrangements(yard.tracks)])


def tell_places(yard, car):
    if car >= len(yard.tracks):
        return refused(NO_SUCH_CAR)
    stood_at = sorted(set([places[car] for places in moves_about(yard)]))
    return [len(stood_at)] + listed(stood_at)


def tell_hardest(yard):
    needed = needed_about(yard)
    if not needed:
        return refused(CANNOT_BE)
    most = max(needed.values())
    farthest = [places for places in needed if needed[places] == most]
    return [most] + listed(min(farthest)) + listed([len(farthest)])


def tell_state(yard):
    cars = []
    for upright, line, length in yard.cars:
        cars.extend([upright, line, length])
    wants = []
    for car, place in yard.wanted.items():
        wants.extend([car, place])
    size = listed([yard.rows, yard.columns])
    return [yard.moves_made] + size + listed(cars) + listed(yard.places) + listed(wants)
