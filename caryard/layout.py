"""What a yard holds: its cells, its cars, where they stand and where they are wanted."""


class Yard:
    """A yard of cells with cars in it.

    A car's track tells for each of its places, from 0 on, the cells that it stands on there,
    each cell a bit of one whole number: whether two cars meet is then a single `&`.
    The wanted cars stand in the order in which each was told last.
    The known moves (None: not looked for yet) are those of each arrangement that can come about. They take the
    longest to find, and are kept from call to call: what can come about stays the same behind a move and a want.
    """

    def __init__(self):
        self.begin(1, 1)

    def begin(self, rows, columns):
        self.rows = rows
        self.columns = columns
        self.cars = []
        self.tracks = []
        self.places = ()
        self.wanted = {}
        self.moves_made = 0
        self.known_moves = None

    def take_in(self, upright, line, length, place):
        """One car more, which fits and stands on free cells."""
        self.cars.append((upright, line, length))
        self.tracks.append(self.new_track(upright, line, length))
        self.places = self.places + (place,)
        self.known_moves = None

    def many_lines(self, upright):
        return self.columns if upright else self.rows

    def line_cells(self, upright):
        """How many cells a line has."""
        return self.rows if upright else self.columns

    def new_track(self, upright, line, length):
        first = line if upright else line * self.columns
        step = self.columns if upright else 1
        track = []
        for place in range(self.line_cells(upright) - length + 1):
            cells = 0
            for spot in range(place, place + length):
                cells = cells | (1 << (first + step * spot))
            track.append(cells)
        return track


def taken_cells(tracks, places):
    """The cells that the cars of an arrangement stand on."""
    taken = 0
    for car, place in enumerate(places):
        taken = taken | tracks[car][place]
    return taken


def with_place(places, car, place):
    """The arrangement, but with the car at the place."""
    return places[:car] + (place,) + places[car + 1:]
