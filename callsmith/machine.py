"""The machine, which does the rows of a Code."""

from callsmith.calls import check_made, outcome_of, taken
from callsmith.deeds import reckoned
from callsmith.errors import NoSuchFunction, WrongCount


def run(code, name, values, fuel):
    """The outcome of the rows from the start of that name on, with those numbers."""
    start = start_of(code.starts, name, len(values))
    return outcome_of(Machine(code.rows, start, values, fuel))


def start_of(starts, name, given):
    """The start of that name, where it takes so many things as are given."""
    if name not in starts:
        raise NoSuchFunction(f"there is no function {name}")
    start = starts[name]
    if given != start[1]:
        raise WrongCount(f"{name} takes {start[1]} things and is given {given}")
    return start


class Machine:
    """The stack, the calls that are going on, and the row that is done next."""

    def __init__(self, rows, start, values, fuel):
        self.rows = rows
        self.start = start
        self.fuel = fuel
        self.made = 0
        self.at = 0
        self.stack = list(values)
        # For each call that is going on its slots, and the row behind the call.
        self.going = []

    def finish(self):
        """The number that the first call comes to."""
        self.call(self.start[0], self.start[1], self.start[2])
        while self.going:
            row = self.rows[self.at]
            # Ahead of the row itself, which may go on elsewhere.
            self.at += 1
            self.step(row)
        return self.stack.pop()

    def call(self, first, count, room):
        """Make a call to that row with the numbers on top, or refuse it."""
        check_made(len(self.going), self.made, self.fuel)
        self.made += 1
        slots = taken(self.stack, count) + [0] * (room - count)
        self.going.append((slots, self.at))
        self.at = first

    def step(self, row):
        """Do one row."""
        word = row[0]
        if word == "push":
            self.stack.append(row[1])
        elif word == "load":
            self.stack.append(self.going[-1][0][row[1]])
        elif word == "keep":
            self.going[-1][0][row[1]] = self.stack.pop()
        elif word == "do":
            one, other = taken(self.stack, 2)
            self.stack.append(reckoned(row[1], one, other))
        elif word == "unless":
            if self.stack.pop() == 0:
                self.at = row[1]
        elif word == "skip":
            self.at = row[1]
        elif word == "call":
            self.call(row[1], row[2], row[3])
        else:
            _, self.at = self.going.pop()
