"""The document said again for the tests: slow, over sets of cells, and apart from the program."""

from collections import deque


class Model:
    def __init__(self):
        self.begin(1, 1)

    def begin(self, rows, columns):
        self.rows, self.columns = rows, columns
        self.cars, self.places, self.wanted, self.made = [], [], {}, 0

    def cells(self, shape, place):
        upright, line, length = shape
        along = range(place, place + length)
        return {(spot, line) if upright else (line, spot) for spot in along}

    def in_yard(self, cells):
        return all(row < self.rows and column < self.columns for row, column in cells)

    def stand_apart(self, places):
        all_cells = [cell for shape, place in zip(self.cars, places) for cell in self.cells(shape, place)]
        return len(set(all_cells)) == len(all_cells)

    def leads(self, places, car, place):
        """Whether one move brings the car there: a step at a time, none of them onto another car."""
        if place == places[car] or not self.in_yard(self.cells(self.cars[car], place)):
            return False
        step = 1 if place > places[car] else -1
        for between in range(places[car] + step, place + step, step):
            if not self.stand_apart(places[:car] + [between] + places[car + 1:]):
                return False
        return True

    def fewest(self):
        start = tuple(self.places)
        steps, waiting = {start: 0}, deque([start])
        while waiting:
            at = waiting.popleft()
            if all(at[car] == place for car, place in self.wanted.items()):
                return [steps[at]]
            for car in range(len(at)):
                for place in range(5):
                    after = at[:car] + (place,) + at[car + 1:]
                    if after not in steps and self.leads(list(at), car, place):
                        steps[after] = steps[at] + 1
                        waiting.append(after)
        return [-6]

    def begins_answer(self, rows, columns):
        if rows not in range(1, 6) or columns not in range(1, 6):
            return [-1]
        self.begin(rows, columns)
        return [rows * columns]

    def car_answer(self, upright, line, place, length):
        if upright not in (0, 1) or length not in range(2, 6):
            return [-1]
        shape = (upright, line, length)
        if not self.in_yard(self.cells(shape, place)):
            return [-1]
        if len(self.cars) == 5:
            return [-5]
        taken = {cell for other, at in zip(self.cars, self.places) for cell in self.cells(other, at)}
        if taken & self.cells(shape, place):
            return [-6]
        self.cars.append(shape)
        self.places.append(place)
        return [len(self.cars) - 1]

    def of_car(self, number, car, *rest):
        if car >= len(self.cars):
            return [-2]
        if number == 2:
            if not self.leads(self.places, car, rest[0]):
                return [-6]
            self.places[car] = rest[0]
            self.made += 1
            return [self.made, len(self.places)] + self.places
        if number == 3:
            if not self.in_yard(self.cells(self.cars[car], rest[0])):
                return [-1]
            self.wanted[car] = rest[0]
        else:
            self.wanted.pop(car, None)
        return [len(self.wanted)]

    def answer(self, call):
        if call[0] == 0:
            return self.begins_answer(*call[1:])
        if call[0] == 1:
            return self.car_answer(*call[1:])
        if call[0] == 5:
            return self.fewest()
        return self.of_car(*call)


def model_answers(calls):
    """What each of the calls answers, asked one behind another."""
    model = Model()
    return [model.answer(call) for call in calls]
