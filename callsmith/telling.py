"""What a call comes to, told by the trees of the functions."""

from callsmith.calls import check_made, outcome_of, taken
from callsmith.deeds import reckoned
from callsmith.trees import check_call, checked, within


def told(program, name, values, fuel):
    """The outcome of the function of that name, called with those numbers."""
    check_call(name, len(values), checked(program))
    return outcome_of(Telling(program, name, values, fuel))


def ahead(tree):
    """The trees within a tree that are worked out ahead of its own step, from the left."""
    if tree[0] == "choose" or tree[0] == "let":
        return within(tree)[:1]
    return within(tree)


class Telling:
    """What is still to be worked out, and the numbers that came so far.

    It is kept in lists, as trees within calls within trees go down hundreds of
    levels: too many for functions of Python that call themselves.
    """

    def __init__(self, program, name, values, fuel):
        self.functions = {each: (takes, body) for each, takes, body in program}
        self.name = name
        self.fuel = fuel
        self.made = 0
        self.numbers = list(values)
        # For each call that is going on a list of what is to be done in it, the
        # next one last: a tree, what the names stand for, and whether the trees
        # ahead of its own step were worked out.
        self.going = []

    def finish(self):
        """The number that the function that is asked for comes to."""
        self.call(self.name, len(self.numbers))
        while self.going:
            if self.going[-1]:
                tree, known, ready = self.going[-1].pop()
                self.step(tree, known, ready)
            else:
                self.going.pop()
        return self.numbers.pop()

    def call(self, name, count):
        """Make a call of the function with the latest numbers, or refuse it."""
        check_made(len(self.going), self.made, self.fuel)
        self.made += 1
        takes, body = self.functions[name]
        numbers = taken(self.numbers, count)
        self.going.append([(body, dict(zip(takes, numbers)), False)])

    def later(self, tree, known, ready):
        """Put a tree ahead of all else that is to be done."""
        self.going[-1].append((tree, known, ready))

    def step(self, tree, known, ready):
        """Go into the trees ahead of a tree's own step, or do that step."""
        parts = [] if ready else ahead(tree)
        if parts:
            self.later(tree, known, True)
            for part in reversed(parts):
                self.later(part, known, False)
        else:
            self.settle(tree, known)

    def settle(self, tree, known):
        """The own step of a tree, with the numbers of the trees ahead of it."""
        word = tree[0]
        if word == "num":
            self.numbers.append(tree[1])
        elif word == "name":
            self.numbers.append(known[tree[1]])
        elif word == "choose":
            self.settle_choose(tree, known)
        elif word == "let":
            self.settle_let(tree, known)
        elif word == "call":
            self.call(tree[1], len(tree[2]))
        else:
            one, other = taken(self.numbers, 2)
            self.numbers.append(reckoned(word, one, other))

    def settle_choose(self, tree, known):
        """Go on with the tree that the latest number chooses."""
        if self.numbers.pop() == 0:
            self.later(tree[3], known, False)
        else:
            self.later(tree[2], known, False)

    def settle_let(self, tree, known):
        """Go on with the second tree, where the name stands for the latest number."""
        # A new dict, as the trees beside this let still need the old one.
        inner = dict(known)
        inner[tree[1]] = self.numbers.pop()
        self.later(tree[3], inner, False)
