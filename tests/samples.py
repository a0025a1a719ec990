"""What the tests share: short words for trees, many programs, and a plain telling to measure by."""

import copy
import unittest

from callsmith.machine import run
from callsmith.smith import smithed
from callsmith.telling import told

MOST = 10 ** 12
DEEDS = ("sum", "less", "times", "part", "below")
ONE = ("num", 1)
NOUGHT = ("num", 0)
BY_NOUGHT = ("part", ("num", 1), ("num", 0))
TOO_GREAT = ("sum", ("num", MOST), ("num", 1))


def num(number):
    return ("num", number)


def name(word):
    return ("name", word)


def call(function, *args):
    return ("call", function, args)


def let(word, first, second):
    return ("let", word, first, second)


def choose(first, chosen, other):
    return ("choose", first, chosen, other)


def nested(levels, top, around):
    """`top` at that level of a tree, each level above it made by `around`."""
    tree = top
    for _ in range(levels - 1):
        tree = around(tree)
    return tree


# Each puts one tree a level deeper, in another place of another kind; the
# function "g" takes two things and comes to the first less the second.
AROUND = {
    "deed left": lambda tree: ("sum", tree, ONE),
    "deed right": lambda tree: ("less", ONE, tree),
    "choose first": lambda tree: choose(tree, ONE, NOUGHT),
    "choose second": lambda tree: choose(ONE, tree, NOUGHT),
    "choose third": lambda tree: choose(NOUGHT, ONE, tree),
    "let first": lambda tree: let("x", tree, name("x")),
    "let second": lambda tree: let("x", ONE, tree),
    "call first": lambda tree: call("g", tree, ONE),
    "call last": lambda tree: call("g", ONE, tree),
}
G = ("g", ("p", "q"), ("less", name("p"), name("q")))


class Stop(Exception):
    """What ends the plain telling ahead of its number."""


class Plain:
    """The telling as points 3, 6, 7 and 8 say it, by functions that call themselves.

    It shares nothing with the package, and is for shallow programs.
    """

    def __init__(self, program, fuel):
        self.functions = {row[0]: row for row in program}
        self.fuel = fuel
        self.made = 0

    def outcome(self, function, numbers):
        try:
            number = self.call(function, numbers, 0)
        except Stop as stop:
            return (str(stop), None, self.made)
        return ("value", number, self.made)

    def call(self, function, numbers, going):
        if going == 20:
            raise Stop("deep")
        if self.made == self.fuel:
            raise Stop("dry")
        self.made += 1
        _, takes, body = self.functions[function]
        return self.tell(body, list(zip(takes, numbers)), going + 1)

    def tell(self, tree, known, going):
        word = tree[0]
        if word == "num":
            return tree[1]
        if word == "name":
            return [number for one, number in known if one == tree[1]][-1]
        if word == "choose":
            chosen = tree[2] if self.tell(tree[1], known, going) != 0 else tree[3]
            return self.tell(chosen, known, going)
        if word == "let":
            number = self.tell(tree[2], known, going)
            return self.tell(tree[3], known + [(tree[1], number)], going)
        if word == "call":
            return self.call(tree[1], [self.tell(part, known, going) for part in tree[2]], going)
        one = self.tell(tree[1], known, going)
        return self.deed(word, one, self.tell(tree[2], known, going))

    @staticmethod
    def deed(word, one, other):
        if word == "part" and other == 0:
            raise Stop("nought")
        number = {"sum": lambda: one + other, "less": lambda: one - other,
                  "times": lambda: one * other, "part": lambda: one // other,
                  "below": lambda: int(one < other)}[word]()
        if abs(number) > MOST:
            raise Stop("great")
        return number


class Dice:
    """Numbers that look thrown, but are the same in every run and every Python."""

    def __init__(self, seed):
        self.state = seed

    def upto(self, many):
        """A number from 0 to below `many`."""
        self.state = (self.state * 6364136223846793005 + 1442695040888963407) % 2 ** 64
        return (self.state >> 33) % many

    def of(self, things):
        return things[self.upto(len(things))]


NUMBERS = (0, 0, 1, 1, 1, 2, 3, 7, -1, -2, -5, 1000003, MOST, -MOST)
# Few of them, so that lets often stand over names that stand already.
NAMES = ("a", "b", "c", "x", "y")
KINDS = ("num", "name", "name") + DEEDS + ("choose", "choose", "let", "let", "let", "call", "call")


def thrown_tree(dice, known, counts, levels):
    kind = dice.of(KINDS) if levels > 1 else dice.of(("num", "name"))
    if kind == "name" and known:
        return name(dice.of(known))
    if kind == "num" or kind == "name":
        return num(dice.of(NUMBERS))

    def part(names=known):
        return thrown_tree(dice, names, counts, levels - 1)

    if kind == "choose":
        return choose(part(), part(), part())
    if kind == "let":
        word = dice.of(NAMES)
        return let(word, part(), part(known + (word,)))
    if kind == "call":
        function = dice.of(sorted(counts))
        return call(function, *[part() for _ in range(counts[function])])
    return (kind, part(), part())


def thrown_program(seed):
    """One of many programs, all right ones, of 1 to 5 functions and up to 7 levels."""
    dice = Dice(seed)
    functions = "pqrst"[:1 + dice.upto(5)]
    counts = {function: dice.upto(4) for function in functions}
    return [(function, NAMES[:counts[function]],
             thrown_tree(dice, NAMES[:counts[function]], counts, 2 + dice.upto(6)))
            for function in functions]


class BothCase(unittest.TestCase):
    """Asks both ways of telling, and looks that nothing handed in is changed."""

    def comes_to(self, outcome, program, function, values=(), fuel=1000):
        values = list(values)
        before = copy.deepcopy((program, values))
        for found in (told(program, function, values, fuel),
                      run(smithed(program), function, values, fuel)):
            self.assertEqual(found, outcome)
            self.assertIs(type(found), tuple)
            self.assertEqual([type(part) for part in found], [type(part) for part in outcome])
        self.assertEqual((program, values), before)

    def body_comes_to(self, outcome, body, takes=(), values=(), fuel=1000):
        """The same of a body of a function f, with G beside it."""
        self.comes_to(outcome, [("f", takes, body), G], "f", values, fuel)

    def refused(self, error, function, *args):
        with self.assertRaises(error) as caught:
            function(*args)
        self.assertIs(type(caught.exception), error)
