"""The document said again for the tests: slow, over sets of cells, and apart from the program."""

import itertools
from collections import deque


class Model:
    def __init__(self):
        self.begin(1, 1)

    def begin(self, rows, columns):
        self.rows, self.columns = rows, columns
        self.cars, self.places, self.wanted, self.made = [], [], [], 0
        self.looked_up = {}

    def cells(self, shape, place):
        upright, line, length = shape
        along = range(place, place + length)
        return {(spot, line) if upright else (line, spot) for spot in along}

    def in_yard(self, cells):
        return all(row < self.rows and column < self.columns for row, column in cells)

    def stand_apart(self, places):
        all_cells = [cell for shape, place in zip(self.cars, places) for cell in self.cells(shape, place)]
        return len(set(all_cells)) == len(all_cells)

    def leads(self, places, car, place):
        """Whether one move brings the car there: a step at a time, none of them onto another car."""
        if place == places[car] or not self.in_yard(self.cells(self.cars[car], place)):
            return False
        step = 1 if place > places[car] else -1
        for between in range(places[car] + step, place + step, step):
            if not self.stand_apart(places[:car] + [between] + places[car + 1:]):
                return False
        return True

    def moves(self, at):
        """Each move that can be made there: its car and place, and where it leads. Looked up but once for these cars."""
        if at not in self.looked_up:
            self.looked_up[at] = [
                ((car, place), at[:car] + (place,) + at[car + 1:])
                for car in range(len(at)) for place in range(5) if self.leads(list(at), car, place)]
        return self.looked_up[at]

    def is_wanted(self, at):
        return all(at[car] == place for car, place in self.wanted)

    def can_come_about(self):
        found, waiting = {tuple(self.places)}, deque([tuple(self.places)])
        while waiting:
            for told, after in self.moves(waiting.popleft()):
                if after not in found:
                    found.add(after)
                    waiting.append(after)
        return found

    def fewest(self):
        start = tuple(self.places)
        steps, waiting = {start: 0}, deque([start])
        while waiting:
            at = waiting.popleft()
            if self.is_wanted(at):
                return [steps[at]]
            for told, after in self.moves(at):
                if after not in steps:
                    steps[after] = steps[at] + 1
                    waiting.append(after)
        return [-6]

    def plan(self):
        """Of each arrangement the first of all plans that lead to it, by as many moves more each time."""
        plans = {tuple(self.places): ()}
        seen = set()
        while plans:
            there = [plan for at, plan in plans.items() if self.is_wanted(at)]
            if there:
                told = [number for one in min(there) for number in one]
                return [len(told) // 2, len(told)] + told
            seen.update(plans)
            longer = {}
            for at, plan in plans.items():
                for told, after in self.moves(at):
                    if after not in seen:
                        longer[after] = min(plan + (told,), longer.get(after, plan + (told,)))
            plans = longer
        return [-6]

    def reach(self):
        tracks = [[place for place in range(5) if self.in_yard(self.cells(shape, place))] for shape in self.cars]
        all_told = sum(self.stand_apart(at) for at in itertools.product(*tracks))
        return [len(self.can_come_about()), 1, all_told]

    def hardest(self):
        """Each arrangement needs one move more than the best that one leads to: reckoned until nothing changes."""
        never = 1000000
        needed = {at: 0 if self.is_wanted(at) else never for at in self.can_come_about()}
        changed = True
        while changed:
            changed = False
            for at in needed:
                best = min([needed[at]] + [needed[after] + 1 for told, after in self.moves(at)])
                if best != needed[at]:
                    needed[at], changed = best, True
        most = max(needed.values())
        if most >= never:
            return [-6]
        farthest = sorted(at for at in needed if needed[at] == most)
        return [most, len(self.places)] + list(farthest[0]) + [1, len(farthest)]

    def state(self):
        shapes = [number for shape in self.cars for number in shape]
        wants = [number for want in self.wanted for number in want]
        found = [self.made]
        for told in ([self.rows, self.columns], shapes, self.places, wants):
            found += [len(told)] + told
        return found

    def begins_answer(self, rows, columns):
        if rows not in range(1, 6) or columns not in range(1, 6):
            return [-1]
        self.begin(rows, columns)
        return [rows * columns]

    def car_answer(self, upright, line, place, length):
        if upright not in (0, 1) or length not in range(2, 6):
            return [-1]
        shape = (upright, line, length)
        if not self.in_yard(self.cells(shape, place)):
            return [-1]
        if len(self.cars) == 5:
            return [-5]
        taken = {cell for other, at in zip(self.cars, self.places) for cell in self.cells(other, at)}
        if taken & self.cells(shape, place):
            return [-6]
        self.cars.append(shape)
        self.places.append(place)
        self.looked_up = {}
        return [len(self.cars) - 1]

    def of_car(self, number, car, *rest):
        if car >= len(self.cars):
            return [-2]
        if number == 2:
            if not self.leads(self.places, car, rest[0]):
                return [-6]
            self.places[car] = rest[0]
            self.made += 1
            return [self.made, len(self.places)] + self.places
        if number == 8:
            stood_at = sorted({at[car] for at in self.can_come_about()})
            return [len(stood_at), len(stood_at)] + stood_at
        if number == 3 and not self.in_yard(self.cells(self.cars[car], rest[0])):
            return [-1]
        self.wanted = [told for told in self.wanted if told[0] != car]
        if number == 3:
            self.wanted.append((car, rest[0]))
        return [len(self.wanted)]

    def answer(self, call):
        if call[0] == 0:
            return self.begins_answer(*call[1:])
        if call[0] == 1:
            return self.car_answer(*call[1:])
        if call[0] in (2, 3, 4, 8):
            return self.of_car(*call)
        asked = {5: self.fewest, 6: self.plan, 7: self.reach, 9: self.hardest, 10: self.state}
        return asked[call[0]]()


def model_answers(calls):
    """What each of the calls answers, asked one behind another."""
    model = Model()
    return [model.answer(call) for call in calls]
