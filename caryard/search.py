"""Where moves lead, and how few of them lead where the cars are wanted."""

from caryard.layout import taken_cells
from caryard.layout import with_place


def ways(track, place, others):
    """The places that a car can go to in one move, rising; others are the cells of the other cars."""
    lowest = place
    while lowest > 0 and not track[lowest - 1] & others:
        lowest = lowest - 1
    behind = place + 1
    while behind < len(track) and not track[behind] & others:
        behind = behind + 1
    return list(range(lowest, place)) + list(range(place + 1, behind))


def moves_at(tracks, places):
    """The moves that can be made in an arrangement: of each the car, its place, and the arrangement behind it.

    They rise by car and by place, since of several plans the one is meant that comes first so.
    """
    taken = taken_cells(tracks, places)
    found = []
    for car, place in enumerate(places):
        track = tracks[car]
        for to_place in ways(track, place, taken ^ track[place]):
            found.append((car, to_place, with_place(places, car, to_place)))
    return found


def moves_by_arrangement(tracks, start):
    """Of each arrangement that can come about, the moves that can be made in it."""
    moves = {}
    waiting = [start]
    while waiting:
        places = waiting.pop()
        if places not in moves:
            moves[places] = moves_at(tracks, places)
            for car, place, after in moves[places]:
                waiting.append(after)
    return moves


def count_arrangements(tracks):
    """How many arrangements there are, whether they can come about or not."""
    takings = [0]
    for track in tracks:
        longer = []
        for taken in takings:
            for cells in track:
                if not cells & taken:
                    longer.append(taken | cells)
        takings = longer
    return len(takings)


def is_as_wanted(places, wanted):
    for car, place in wanted.items():
        if places[car] != place:
            return False
    return True


def next_layer(moves, layer, needed, made):
    """The arrangements one move from a layer's that have no number yet; this is theirs then."""
    found = []
    for places in layer:
        for car, place, after in moves[places]:
            if after not in needed:
                needed[after] = made
                found.append(after)
    return found


def moves_needed(moves, wanted):
    """Of each arrangement that can come about, how many moves lead from it where the cars are wanted.

    It is reckoned from where they are wanted, all of those at once: each move can be made back.
    So either each arrangement has its number, or none has, where no arrangement that is wanted can come about.
    """
    layer = [places for places in moves if is_as_wanted(places, wanted)]
    needed = {}
    for places in layer:
        needed[places] = 0
    made = 0
    while layer:
        made = made + 1
        layer = next_layer(moves, layer, needed, made)
    return needed


def first_nearer(moves, needed, places):
    """The first move of an arrangement behind which fewer moves are needed; None if none are needed there."""
    for move in moves[places]:
        if needed[move[2]] < needed[places]:
            return move
    return None


def first_plan(moves, needed, start):
    """The plan that is meant, from an arrangement that has its number: its moves, as in moves_at."""
    plan = []
    move = first_nearer(moves, needed, start)
    while move is not None:
        plan.append(move)
        move = first_nearer(moves, needed, move[2])
    return plan
