"""Points 9 to 12: the rows of a program, their slots, and the starts."""

import copy
import unittest

from callsmith.errors import NameTwice, NoSuchFunction, NoSuchName, TooTall, WrongCount
from callsmith.smith import Code, smithed
from tests.samples import (AROUND, DEEDS, G, MOST, NOUGHT, ONE, BothCase, call, choose, let, name,
                           nested, num, thrown_program)

BACK = ("back",)


class SmithCase(BothCase):
    def rows(self, rows, body, takes=()):
        """The rows of the body of a program's only function f, and back."""
        self.assertEqual(smithed([("f", takes, body)]).rows, rows + [BACK])

    def start(self, start, body, takes=()):
        """The start of f, which stands ahead of g, a function of none, and h, one of three."""
        program = [("f", takes, body), ("g", (), ONE), ("h", ("a", "b", "c"), ONE)]
        self.assertEqual(smithed(program).starts["f"], start)


class ACode(unittest.TestCase):
    def test_it_has_what_it_was_made_of(self):
        rows, starts = [("push", 1), BACK], {"f": (0, 0, 0, 1)}
        code = Code(rows, starts)
        self.assertEqual((code.rows, code.starts), (rows, starts))
        code = Code(starts=starts, rows=rows)
        self.assertEqual((code.rows, code.starts), (rows, starts))

    def test_the_kinds_of_its_parts(self):
        code = smithed([("f", ("a",), call("f", name("a")))])
        self.assertIs(type(code), Code)
        self.assertIs(type(code.rows), list)
        self.assertIs(type(code.starts), dict)
        for row in code.rows + list(code.starts.values()):
            self.assertIs(type(row), tuple)


class RowsOfEachKind(SmithCase):
    def test_num(self):
        for number in (0, 5, -3, MOST, -MOST):
            self.rows([("push", number)], num(number))

    def test_name(self):
        for slot, word in enumerate(("c", "a", "b")):
            self.rows([("load", slot)], name(word), ("c", "a", "b"))

    def test_each_deed(self):
        for word in DEEDS:
            with self.subTest(word):
                self.rows([("push", 7), ("load", 0), ("do", word)], (word, num(7), name("a")), ("a",))
                self.rows([("load", 0), ("push", 7), ("do", word)], (word, name("a"), num(7)), ("a",))

    def test_deeds_within_a_deed(self):
        self.rows([("push", 1), ("push", 2), ("do", "sum"), ("push", 3), ("push", 4), ("do", "part"),
                   ("do", "less")],
                  ("less", ("sum", num(1), num(2)), ("part", num(3), num(4))))

    def test_choose(self):
        self.rows([("load", 0), ("unless", 4), ("push", 8), ("skip", 5), ("push", 9)],
                  choose(name("a"), num(8), num(9)), ("a",))

    def test_choose_of_trees_of_several_rows(self):
        self.rows([("push", 1), ("push", 2), ("do", "below"), ("unless", 8),
                   ("push", 3), ("push", 4), ("do", "sum"), ("skip", 13),
                   ("push", 5), ("push", 6), ("push", 7), ("do", "times"), ("do", "less")],
                  choose(("below", num(1), num(2)), ("sum", num(3), num(4)),
                         ("less", num(5), ("times", num(6), num(7)))))

    def test_let(self):
        self.rows([("push", 5), ("keep", 0), ("load", 0)], let("x", num(5), name("x")))
        self.rows([("load", 1), ("keep", 2), ("load", 2)], let("x", name("b"), name("x")), ("a", "b"))

    def test_call(self):
        self.rows([("call", 0, 0, 0)], call("f"))
        self.rows([("load", 1), ("push", 2), ("call", 0, 2, 2)],
                  call("f", name("b"), num(2)), ("a", "b"))
        self.rows([("push", 1), ("push", 2), ("do", "sum"), ("push", 3), ("call", 0, 1, 1), ("call", 0, 1, 1),
                   ("do", "less")],
                  ("less", ("sum", num(1), num(2)), call("f", call("f", num(3)))), ("a",))

    def test_call_has_the_room_of_the_called_function(self):
        self.rows([("load", 0), ("call", 0, 1, 3), ("keep", 1), ("push", 4), ("keep", 2), ("load", 2)],
                  let("x", call("f", name("a")), let("y", num(4), name("y"))), ("a",))


class RowsWithinEachOther(SmithCase):
    def test_a_choose_in_each_place_of_a_choose(self):
        inner = choose(num(1), num(2), num(3))
        self.rows([("push", 1), ("unless", 4), ("push", 2), ("skip", 5), ("push", 3),
                   ("unless", 8), ("push", 8), ("skip", 9), ("push", 9)],
                  choose(inner, num(8), num(9)))
        self.rows([("push", 7), ("unless", 8),
                   ("push", 1), ("unless", 6), ("push", 2), ("skip", 7), ("push", 3),
                   ("skip", 9), ("push", 9)],
                  choose(num(7), inner, num(9)))
        self.rows([("push", 7), ("unless", 4), ("push", 8), ("skip", 9),
                   ("push", 1), ("unless", 8), ("push", 2), ("skip", 9), ("push", 3)],
                  choose(num(7), num(8), inner))

    def test_a_choose_in_each_place_of_a_deed(self):
        inner = choose(num(1), num(2), num(3))
        self.rows([("push", 1), ("unless", 4), ("push", 2), ("skip", 5), ("push", 3),
                   ("push", 6), ("do", "part")],
                  ("part", inner, num(6)))
        self.rows([("push", 6), ("push", 1), ("unless", 5), ("push", 2), ("skip", 6), ("push", 3),
                   ("do", "part")],
                  ("part", num(6), inner))

    def test_a_choose_in_a_let_and_in_a_call(self):
        inner = choose(num(1), num(2), num(3))
        self.rows([("push", 1), ("unless", 4), ("push", 2), ("skip", 5), ("push", 3), ("keep", 0),
                   ("load", 0), ("unless", 10), ("push", 4), ("skip", 11), ("push", 5)],
                  let("x", inner, choose(name("x"), num(4), num(5))))
        self.rows([("push", 0), ("push", 1), ("unless", 5), ("push", 2), ("skip", 6), ("push", 3),
                   ("call", 0, 2, 2)],
                  call("f", NOUGHT, inner), ("a", "b"))

    def test_a_let_or_a_call_in_a_choose(self):
        program = [("f", (), choose(num(7), let("x", num(1), name("x")), call("g", num(2)))),
                   ("g", ("a",), name("a"))]
        self.assertEqual(smithed(program).rows, [
            ("push", 7), ("unless", 6), ("push", 1), ("keep", 0), ("load", 0), ("skip", 8),
            ("push", 2), ("call", 9, 1, 1), BACK, ("load", 0), BACK])


class Slots(SmithCase):
    def test_lets_within_each_other_by_their_second_trees(self):
        self.rows([("push", 1), ("keep", 2), ("push", 2), ("keep", 3), ("push", 3), ("keep", 4),
                   ("load", 2), ("load", 3), ("do", "sum"), ("load", 4), ("do", "sum"),
                   ("load", 1), ("do", "sum")],
                  let("x", num(1), let("y", num(2), let("z", num(3), (
                      "sum", ("sum", ("sum", name("x"), name("y")), name("z")), name("b"))))),
                  ("a", "b"))

    def test_lets_beside_each_other(self):
        self.rows([("push", 1), ("keep", 1), ("load", 1), ("push", 2), ("keep", 1), ("load", 1),
                   ("do", "sum")],
                  ("sum", let("x", num(1), name("x")), let("y", num(2), name("y"))), ("a",))

    def test_a_let_in_the_first_tree_of_a_let(self):
        self.rows([("push", 1), ("keep", 0), ("load", 0), ("keep", 0), ("load", 0)],
                  let("x", let("y", num(1), name("y")), name("x")))
        self.rows([("push", 1), ("keep", 0), ("push", 2), ("keep", 1), ("load", 1), ("keep", 1),
                   ("load", 0), ("load", 1), ("do", "sum")],
                  let("x", num(1), let("y", let("z", num(2), name("z")),
                                       ("sum", name("x"), name("y")))))

    def test_a_let_over_a_name_has_a_slot_of_its_own(self):
        self.rows([("load", 0), ("keep", 1), ("load", 1)], let("a", name("a"), name("a")), ("a",))
        self.rows([("load", 1), ("keep", 2), ("load", 2), ("keep", 3), ("load", 3), ("load", 0),
                   ("do", "sum")],
                  let("b", name("b"), let("b", name("b"), ("sum", name("b"), name("a")))), ("a", "b"))
        self.rows([("push", 1), ("keep", 1), ("push", 2), ("keep", 2), ("load", 2), ("load", 1),
                   ("do", "sum"), ("load", 0), ("do", "sum")],
                  ("sum", let("a", num(1), ("sum", let("a", num(2), name("a")), name("a"))), name("a")),
                  ("a",))

    def test_a_let_behind_one_over_a_name_has_the_next_slot(self):
        self.rows([("push", 1), ("keep", 1), ("push", 2), ("keep", 2), ("load", 1), ("load", 2),
                   ("do", "sum")],
                  let("a", num(1), let("y", num(2), ("sum", name("a"), name("y")))), ("a",))

    def test_a_let_in_each_other_place(self):
        inner = let("y", num(1), name("y"))
        kept = [("push", 1), ("keep", 1), ("load", 1)]
        self.rows([("push", 7), ("keep", 0)] + kept + [("load", 0), ("do", "sum")],
                  let("x", num(7), ("sum", inner, name("x"))))
        self.rows([("push", 7), ("keep", 0)] + kept + [("unless", 8), ("push", 2), ("skip", 9), ("push", 3)],
                  let("x", num(7), choose(inner, num(2), num(3))))
        self.rows([("load", 0), ("push", 1), ("keep", 2), ("load", 2), ("call", 0, 2, 3)],
                  call("f", name("a"), inner), ("a", "b"))

    def test_slots_of_one_function_do_not_count_in_the_next(self):
        one = let("x", num(1), let("y", num(2), name("y")))
        program = [("f", ("a",), one), ("g", (), let("x", num(3), name("x")))]
        self.assertEqual(smithed(program).rows, [
            ("push", 1), ("keep", 1), ("push", 2), ("keep", 2), ("load", 2), BACK,
            ("push", 3), ("keep", 0), ("load", 0), BACK])


class SeveralFunctions(SmithCase):
    PROGRAM = [
        ("main", ("n",), ("sum", call("twice", name("n")), call("none"))),
        ("none", (), choose(NOUGHT, ONE, num(2))),
        ("twice", ("k",), let("d", ("times", name("k"), num(2)), call("main", name("d")))),
    ]

    def test_rows_are_counted_over_all(self):
        self.assertEqual(smithed(self.PROGRAM).rows, [
            ("load", 0), ("call", 11, 1, 2), ("call", 5, 0, 0), ("do", "sum"), BACK,
            ("push", 0), ("unless", 9), ("push", 1), ("skip", 10), ("push", 2), BACK,
            ("load", 0), ("push", 2), ("do", "times"), ("keep", 1), ("load", 1), ("call", 0, 1, 1), BACK])

    def test_starts_in_the_order_of_the_functions(self):
        self.assertEqual(list(smithed(self.PROGRAM).starts.items()), [
            ("main", (0, 1, 1, 2)), ("none", (5, 0, 0, 1)), ("twice", (11, 1, 2, 2))])
        starts = smithed(self.PROGRAM[::-1]).starts
        self.assertEqual(list(starts.items()), [
            ("twice", (0, 1, 2, 2)), ("none", (7, 0, 0, 1)), ("main", (13, 1, 1, 2))])

    def test_twenty_functions(self):
        letters = "abcdefghijklmnopqrst"
        code = smithed([(letter, (), num(at)) for at, letter in enumerate(letters)])
        self.assertEqual(code.rows, [row for at in range(20) for row in (("push", at), BACK)])
        self.assertEqual(code.starts, {letter: (2 * at, 0, 0, 1) for at, letter in enumerate(letters)})

    def test_no_function(self):
        self.assertEqual((smithed([]).rows, smithed([]).starts), ([], {}))


class Starts(SmithCase):
    def test_a_name_or_a_number_alone(self):
        self.start((0, 0, 0, 1), ONE)
        self.start((0, 3, 3, 1), ONE, ("a", "b", "c"))
        self.start((0, 1, 1, 1), name("a"), ("a",))
        self.start((0, 6, 6, 1), name("f"), tuple("abcdef"))

    def test_the_first_row(self):
        starts = smithed([("f", (), choose(ONE, ONE, ("sum", ONE, ONE))),
                          ("g", ("a",), let("x", call("h"), name("a"))), ("h", (), ONE)]).starts
        self.assertEqual([start[0] for start in starts.values()], [0, 8, 12])

    def test_slots(self):
        x = let("x", ONE, ONE)
        self.start((0, 2, 3, 1), x, ("a", "b"))
        self.start((0, 2, 4, 1), let("y", ONE, x), ("a", "b"))
        self.start((0, 2, 3, 1), let("y", x, ONE), ("a", "b"))
        self.start((0, 0, 2, 1), let("y", let("z", ONE, x), ONE))
        self.start((0, 0, 2, 1), let("y", let("z", ONE, x), x))
        self.start((0, 0, 3, 1), let("y", x, let("z", x, x)))
        self.start((0, 0, 2, 1), let("z", ONE, let("y", x, ONE)))
        self.start((0, 0, 1, 2), ("sum", x, let("y", ONE, ONE)))
        self.start((0, 1, 3, 2), ("sum", x, let("y", ONE, x)), ("a",))
        self.start((0, 1, 3, 2), ("sum", let("y", ONE, x), x), ("a",))

    def test_slots_of_lets_over_one_name(self):
        self.start((0, 1, 2, 1), let("a", name("a"), name("a")), ("a",))
        self.start((0, 1, 3, 1), let("a", name("a"), let("a", name("a"), name("a"))), ("a",))

    def test_slots_of_lets_in_each_place(self):
        for place in ("deed left", "deed right", "choose first", "choose second", "choose third"):
            with self.subTest(place):
                body = nested(4, let("x", ONE, ONE), AROUND[place])
                self.assertEqual(smithed([("f", ("a",), body)]).starts["f"][2], 2)
        for at in range(3):
            args = [ONE, ONE, ONE]
            args[at] = let("x", ONE, let("y", ONE, ONE))
            self.start((0, 0, 2, 3), call("h", *args))

    def test_eleven_lets(self):
        self.start((0, 6, 17, 1), nested(12, ONE, AROUND["let second"]), tuple("abcdef"))
        self.start((0, 6, 7, 1), nested(12, ONE, AROUND["let first"]), tuple("abcdef"))

    def test_height_of_deeds(self):
        for word in DEEDS:
            two = (word, ONE, name("a"))
            self.start((0, 1, 1, 2), two, ("a",))
            self.start((0, 1, 1, 2), (word, two, ONE), ("a",))
            self.start((0, 1, 1, 3), (word, ONE, two), ("a",))
            self.start((0, 1, 1, 3), (word, two, two), ("a",))
            self.start((0, 1, 1, 3), (word, (word, ONE, two), two), ("a",))
            self.start((0, 1, 1, 4), (word, two, (word, ONE, two)), ("a",))

    def test_height_of_a_choose(self):
        two = ("sum", ONE, ONE)
        three = ("sum", ONE, two)
        self.start((0, 0, 0, 1), choose(ONE, ONE, ONE))
        self.start((0, 0, 0, 2), choose(two, ONE, ONE))
        self.start((0, 0, 0, 2), choose(ONE, two, ONE))
        self.start((0, 0, 0, 2), choose(ONE, ONE, two))
        self.start((0, 0, 0, 3), choose(three, two, ONE))
        self.start((0, 0, 0, 3), choose(two, three, two))
        self.start((0, 0, 0, 3), choose(ONE, two, three))
        self.start((0, 0, 0, 4), ("sum", ONE, choose(ONE, three, two)))
        self.start((0, 0, 0, 3), ("sum", choose(ONE, three, two), ONE))

    def test_height_of_a_let(self):
        two = ("sum", ONE, ONE)
        self.start((0, 0, 1, 1), let("x", ONE, name("x")))
        self.start((0, 0, 1, 2), let("x", two, name("x")))
        self.start((0, 0, 1, 2), let("x", ONE, two))
        self.start((0, 0, 1, 2), let("x", two, two))
        self.start((0, 0, 1, 3), ("sum", ONE, let("x", ONE, two)))

    def test_height_of_a_call(self):
        two = ("sum", ONE, ONE)
        self.start((0, 0, 0, 1), call("f"))
        self.start((0, 0, 0, 1), call("g"))
        self.start((0, 0, 0, 2), ("sum", ONE, call("g")))
        self.start((0, 0, 0, 2), ("sum", call("g"), ONE))
        self.start((0, 0, 0, 2), ("sum", call("g"), call("g")))
        self.start((0, 1, 1, 1), call("f", ONE), ("a",))
        self.start((0, 1, 1, 2), call("f", two), ("a",))
        self.start((0, 0, 0, 3), call("h", ONE, ONE, ONE))
        self.start((0, 0, 0, 3), call("h", two, two, ONE))
        self.start((0, 0, 0, 4), call("h", ONE, ONE, two))
        self.start((0, 0, 0, 4), call("h", ONE, ("sum", ONE, two), ONE))
        self.start((0, 0, 0, 5), call("h", ("sum", two, ("sum", two, ("sum", ONE, two))), ONE, ONE))
        self.start((0, 0, 0, 3), call("h", call("g"), call("g"), call("g")))
        self.start((0, 0, 0, 4), ("sum", ONE, call("h", ONE, ONE, ONE)))
        self.start((0, 0, 0, 3), ("sum", call("h", ONE, ONE, ONE), two))
        self.start((0, 0, 0, 5), call("h", ONE, ONE, call("h", ONE, ONE, ONE)))

    def test_height_does_not_count_what_the_called_function_has(self):
        high = ("sum", ONE, ("sum", ONE, ("sum", ONE, ONE)))
        code = smithed([("f", (), call("g")), ("g", (), high)])
        self.assertEqual(code.starts, {"f": (0, 0, 0, 1), "g": (2, 0, 0, 4)})

    def test_height_at_twelve_levels(self):
        heights = {"deed left": 2, "deed right": 12, "choose first": 1, "choose second": 1,
                   "choose third": 1, "let first": 1, "let second": 1, "call first": 2, "call last": 12}
        for place, around in AROUND.items():
            with self.subTest(place):
                code = smithed([("f", (), nested(12, ONE, around)), G])
                self.assertEqual(code.starts["f"][3], heights[place])


class ManyPrograms(unittest.TestCase):
    """The starts told once more from the rows alone, for many programs."""

    def test_starts_are_what_the_rows_say(self):
        for seed in range(400):
            program = thrown_program(seed)
            code = smithed(program)
            with self.subTest(seed):
                backs = [at for at, row in enumerate(code.rows) if row == BACK]
                self.assertEqual(len(backs), len(program))
                self.assertEqual(backs[-1], len(code.rows) - 1)
                self.assertEqual(list(code.starts), [function[0] for function in program])
                first = 0
                for (function, takes, _), back in zip(program, backs):
                    self.assertEqual(code.starts[function], (
                        first, len(takes), self.slots(code.rows[first:back], len(takes)),
                        self.height(code.rows, first, back)))
                    first = back + 1

    def test_calls_go_by_the_starts(self):
        for seed in range(400):
            code = smithed(thrown_program(seed))
            starts = [start[:3] for start in code.starts.values()]
            for row in code.rows:
                if row[0] == "call":
                    self.assertIn(row[1:], starts)

    @staticmethod
    def slots(rows, least):
        """The least number beyond all slots."""
        return max([least] + [row[1] + 1 for row in rows if row[0] in ("load", "keep")])

    def height(self, rows, first, back):
        """The most numbers on the stack, along each way through the rows."""
        heights = {first: 0}
        most = 0
        for at in range(first, back):
            row = rows[at]
            behind = heights[at] + {"push": 1, "load": 1, "keep": -1, "do": -1, "unless": -1,
                                    "skip": 0, "call": 1}[row[0]]
            if row[0] == "call":
                behind -= row[2]
            most = max(most, behind)
            onward = {"unless": (at + 1, row[1]), "skip": (row[1],)}.get(row[0], (at + 1,))
            for other in onward:
                self.assertEqual(heights.setdefault(other, behind), behind)
        self.assertEqual(heights[back], 1)
        return most


class Refused(BothCase):
    def test_as_checked(self):
        wrongs = (
            (NameTwice, [("f", (), ONE), ("f", (), ONE)]),
            (NameTwice, [("f", ("a", "a"), ONE)]),
            (TooTall, [("f", (), nested(13, ONE, AROUND["deed left"]))]),
            (NoSuchName, [("f", (), name("x"))]),
            (NoSuchName, [("f", (), let("x", name("x"), ONE))]),
            (NoSuchFunction, [("f", (), call("g"))]),
            (WrongCount, [("f", (), call("f", ONE))]),
            (NoSuchName, [("f", (), ("sum", name("x"), call("f", ONE))), ("f", (), ONE)]),
        )
        for error, program in wrongs:
            with self.subTest(error, program=program):
                before = copy.deepcopy(program)
                self.refused(error, smithed, program)
                self.assertEqual(program, before)


class Unchanged(unittest.TestCase):
    def test_twice_gives_the_same(self):
        for seed in range(50):
            program = thrown_program(seed)
            before = copy.deepcopy(program)
            one, other = smithed(program), smithed(program)
            self.assertEqual(program, before)
            self.assertEqual(one.rows, other.rows)
            self.assertEqual(list(one.starts.items()), list(other.starts.items()))
            # Neither hangs on the other, nor on the program.
            one.rows.clear()
            one.starts.clear()
            self.assertTrue(other.rows and other.starts)
            self.assertEqual(program, before)


if __name__ == "__main__":
    unittest.main()
