"""Where moves lead, and how few of them lead where the cars are wanted."""

from caryard.layout import taken_cells
from caryard.layout import with_place


def ways(track, place, others):
    """The places that a car can go to in one move, rising; others are the cells of the other cars."""
    lowest = place
    while lowest > 0 and not track[lowest - 1] & others:
        lowest = lowest - 1
    behind = place + 1
    while behind < len(track) and not track[behind] & others:
        behind = behind + 1
    return list(range(lowest, place)) + list(range(place + 1, behind))


def one_move_on(tracks, places):
    """The arrangements that one move leads to."""
    taken = taken_cells(tracks, places)
    found = []
    for car, place in enumerate(places):
        track = tracks[car]
        for to_place in ways(track, place, taken ^ track[place]):
            found.append(with_place(places, car, to_place))
    return found


def next_layer(tracks, layer, seen):
    """The arrangements one move behind a layer's that are not seen yet; they are seen then."""
    found = []
    for places in layer:
        for after in one_move_on(tracks, places):
            if after not in seen:
                seen[after] = True
                found.append(after)
    return found


def is_as_wanted(places, wanted):
    for car, place in wanted.items():
        if places[car] != place:
            return False
    return True


def fewest_moves(tracks, start, wanted):
    """How many moves a plan has; None if there is no plan."""
    seen = {start: True}
    layer = [start]
    made = 0
    while layer:
        for places in layer:
            if is_as_wanted(places, wanted):
                return made
        layer = next_layer(tracks, layer, seen)
        made = made + 1
    return None
