"""Points 1 and 13: the run of a program's rows and its telling by the trees, side by side."""

import copy
import unittest

from callsmith.errors import NameTwice, NoSuchFunction, NoSuchName, TooTall, WrongCount
from callsmith.machine import run
from callsmith.smith import smithed
from callsmith.telling import told
from tests.samples import (AROUND, G, MOST, ONE, BothCase, Dice, Plain, call, name, nested, num,
                           thrown_program)

VALUES = (0, 1, 2, 3, 5, -1, -4, 19, 20, MOST, -MOST)
FUELS = (0, 1, 2, 3, 5, 8, 13, 19, 20, 21, 40, 100)


class SideBySide(unittest.TestCase):
    def test_many_programs(self):
        found = {}
        for seed in range(600):
            program = thrown_program(seed)
            code = smithed(program)
            dice = Dice(seed + 1000000)
            before = copy.deepcopy((program, code.rows, code.starts))
            for function, takes, _ in program:
                for fuel in FUELS:
                    values = [dice.of(VALUES) for _ in takes]
                    outcome = told(program, function, list(values), fuel)
                    found.setdefault(outcome[0], []).append(outcome[2])
                    asked = (seed, function, values, fuel)
                    self.assertEqual(run(code, function, list(values), fuel), outcome, asked)
                    self.assertEqual(Plain(program, fuel).outcome(function, values), outcome, asked)
            self.assertEqual((program, code.rows, code.starts), before)
        # The many programs would tell little if they did not come to each word often.
        self.assertEqual(sorted(found), ["deep", "dry", "great", "nought", "value"])
        for word, made in found.items():
            self.assertGreater(len(made), 100, word)
            self.assertGreater(max(made), 3, word)
        self.assertEqual(min(found["dry"]), 0)

    def test_each_fuel_of_one_program(self):
        body = ("choose", ("below", name("n"), num(2)), name("n"),
                ("sum", call("f", ("less", name("n"), ONE)), call("f", ("less", name("n"), num(2)))))
        program = [("f", ("n",), body)]
        code = smithed(program)
        for fuel in range(28):
            outcome = ("value", 8, 25) if fuel >= 25 else ("dry", None, fuel)
            self.assertEqual(told(program, "f", [6], fuel), outcome)
            self.assertEqual(run(code, "f", [6], fuel), outcome)


class NotFound(BothCase):
    PROGRAM = [("f", ("a",), name("a")), G, ("h", (), ONE)]

    def both_refuse(self, error, function, values):
        code = smithed(self.PROGRAM)
        for fuel in (0, 1, 100):
            self.refused(error, told, self.PROGRAM, function, values, fuel)
            self.refused(error, run, code, function, values, fuel)

    def test_no_such_function(self):
        for function in ("missing", "a", "p", "fg"):
            for values in ([], [1], [1, 2]):
                self.both_refuse(NoSuchFunction, function, values)

    def test_no_such_function_in_a_program_of_none(self):
        self.refused(NoSuchFunction, told, [], "f", [], 1)
        self.refused(NoSuchFunction, run, smithed([]), "f", [], 1)

    def test_wrong_count(self):
        for values in ([], [1, 2], [1, 2, 3, 4, 5, 6, 7]):
            self.both_refuse(WrongCount, "f", values)
        for values in ([], [1], [1, 2, 3]):
            self.both_refuse(WrongCount, "g", values)
        self.both_refuse(WrongCount, "h", [1])

    def test_what_is_asked_for_rightly_is_told(self):
        for function, values, number in (("f", [4], 4), ("g", [7, 2], 5), ("h", [], 1)):
            self.comes_to(("value", number, 1), self.PROGRAM, function, values)
            self.comes_to(("dry", None, 0), self.PROGRAM, function, values, 0)


class WrongPrograms(BothCase):
    """A program is refused ahead of all that is wrong in what is asked of it."""

    WRONGS = (
        (NameTwice, [("f", (), ONE), ("f", (), ONE)]),
        (NameTwice, [("f", ("a", "a"), ONE)]),
        (TooTall, [("f", (), nested(13, ONE, AROUND["deed left"]))]),
        (TooTall, [("f", (), nested(13, call("f"), AROUND["choose third"]))]),
        (NoSuchName, [("f", (), name("x"))]),
        (NoSuchName, [("f", (), ONE), ("g", (), ("choose", ONE, ONE, name("a")))]),
        (NoSuchName, [("f", (), ("let", "x", name("x"), ONE))]),
        (NoSuchFunction, [("f", (), call("gone"))]),
        (WrongCount, [("f", (), call("f", ONE))]),
        (WrongCount, [("f", (), call("f", call("gone")))]),
    )

    def test_ahead_of_what_is_asked(self):
        for error, program in self.WRONGS:
            with self.subTest(error, program=program):
                before = copy.deepcopy(program)
                for function in ("f", "missing"):
                    for values in ([], [1], [1, 2, 3]):
                        for fuel in (0, 10):
                            self.refused(error, told, program, function, values, fuel)
                self.refused(error, smithed, program)
                self.assertEqual(program, before)

    def test_a_function_that_is_not_called_is_looked_at_too(self):
        self.refused(NoSuchName, told, [("f", (), ONE), ("g", (), name("x"))], "f", [], 1)


class Unchanged(unittest.TestCase):
    def test_after_each_outcome(self):
        body = ("choose", name("n"), ("part", num(6), ("less", name("n"), ONE)),
                ("let", "n", num(MOST), ("times", name("n"), name("n"))))
        program = [("f", ("n", "m"), body), ("g", (), call("g")), ("h", ("a",), ("let", "a", ONE, call("h", ONE)))]
        code = smithed(program)
        before = copy.deepcopy((program, code.rows, code.starts))
        for function, values, fuel, outcome in (
                ("f", [3, 9], 1, ("value", 3, 1)), ("f", [1, 9], 1, ("nought", None, 1)),
                ("f", [0, 9], 1, ("great", None, 1)), ("g", [], 100, ("deep", None, 20)),
                ("g", [], 7, ("dry", None, 7)), ("h", [5], 0, ("dry", None, 0)),
                ("h", [5], 30, ("deep", None, 20))):
            with self.subTest(function, values=values):
                handed = list(values)
                self.assertEqual(told(program, function, handed, fuel), outcome)
                self.assertEqual(run(code, function, handed, fuel), outcome)
                self.assertEqual(handed, values)
                self.assertEqual((program, code.rows, code.starts), before)

    def test_a_list_of_values_may_be_handed_in_again(self):
        program = [("f", ("n",), ("let", "n", ("sum", name("n"), ONE), name("n")))]
        code, values = smithed(program), [4]
        for _ in range(3):
            self.assertEqual(told(program, "f", values, 1), ("value", 5, 1))
            self.assertEqual(run(code, "f", values, 1), ("value", 5, 1))


if __name__ == "__main__":
    unittest.main()
