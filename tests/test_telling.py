"""Points 3, 7 and 8: how trees are worked out, which calls are refused, what an outcome is.

Each program is told by its trees and run by its rows: both must give the outcome.
"""

import sys
import unittest

from tests.samples import (AROUND, BY_NOUGHT, DEEDS, G, MOST, NOUGHT, ONE, TOO_GREAT, BothCase,
                           call, choose, let, name, nested, num)

# f of n comes to n, by n calls of itself within each other beside the first one.
COUNT = ("f", ("n",), choose(("below", name("n"), ONE), NOUGHT,
                             ("sum", ONE, call("f", ("less", name("n"), ONE)))))
ENDLESS = ("f", (), call("f"))


class Trees(BothCase):
    def test_a_number_and_a_name(self):
        self.body_comes_to(("value", 7, 1), num(7))
        self.body_comes_to(("value", 0, 1), NOUGHT)
        self.body_comes_to(("value", -MOST, 1), num(-MOST))
        for at, word in enumerate(("a", "b", "c")):
            self.body_comes_to(("value", (4, 5, 6)[at], 1), name(word), ("a", "b", "c"), (4, 5, 6))

    def test_six_things_are_taken_in_their_order(self):
        takes = ("f", "e", "d", "c", "b", "a")
        for at, word in enumerate(takes):
            self.body_comes_to(("value", at * 10, 1), name(word), takes, range(0, 60, 10))

    def test_each_deed_takes_its_first_tree_first(self):
        numbers = {"sum": 10, "less": -4, "times": 21, "part": 0, "below": 1}
        for word in DEEDS:
            with self.subTest(word):
                self.body_comes_to(("value", numbers[word], 1), (word, num(3), num(7)))
        turned = {"sum": 10, "less": 4, "times": 21, "part": 2, "below": 0}
        for word in DEEDS:
            with self.subTest(word, turned=True):
                self.body_comes_to(("value", turned[word], 1), (word, name("a"), name("b")),
                                   ("b", "a"), (3, 7))

    def test_part_rounds_down(self):
        self.body_comes_to(("value", -4, 1), ("part", num(-7), num(2)))

    def test_choose(self):
        for number, chosen in ((0, 9), (1, 8), (-1, 8), (2, 8), (MOST, 8)):
            self.body_comes_to(("value", chosen, 1), choose(num(number), num(8), num(9)))

    def test_call_takes_its_args_in_their_order(self):
        self.body_comes_to(("value", 4, 2), call("g", num(9), num(5)))
        self.body_comes_to(("value", 5, 4), call("g", call("g", num(9), num(3)),
                                                 call("g", num(2), ONE)))

    def test_a_called_function_has_its_own_names_alone(self):
        h = ("h", ("b", "a"), let("b", num(100), ("less", name("b"), name("a"))))
        f = ("f", ("a", "b"), ("sum", call("h", name("a"), name("b")), ("times", num(1000), name("b"))))
        self.comes_to(("value", 3097, 2), [f, h], "f", (2, 3))
        self.comes_to(("value", 98, 1), [f, h], "h", (3, 2))

    def test_numbers_beyond_are_taken_as_they_are(self):
        self.body_comes_to(("value", MOST + 5, 1), num(MOST + 5))
        self.body_comes_to(("value", -MOST - 5, 1), name("a"), ("a",), (-MOST - 5,))
        self.body_comes_to(("great", None, 1), ("sum", name("a"), NOUGHT), ("a",), (MOST + 5,))

    def test_somewhat_more_functions_and_things(self):
        letters = "abcdefghijklmnopqrstuvwxyz"
        chain = [(one, (), call(other)) for one, other in zip(letters[:9], letters[1:10])]
        rest = [(letter, (), num(5)) for letter in letters[9:]]
        self.comes_to(("value", 5, 10), chain + rest, "a")
        self.comes_to(("value", 8, 1), [("verylongname", tuple(letters[:9]), name("i"))],
                      "verylongname", range(9))


class Lets(BothCase):
    def test_it_stands_in_its_second_tree(self):
        self.body_comes_to(("value", 25, 1), let("x", num(5), ("times", name("x"), name("x"))))

    def test_over_a_name_that_is_taken(self):
        self.body_comes_to(("value", 7, 1), let("a", num(7), name("a")), ("a",), (3,))

    def test_its_own_first_tree_reads_what_stood_around(self):
        body = let("a", ("sum", name("a"), ONE), ("times", name("a"), num(10)))
        self.body_comes_to(("value", 40, 1), body, ("a",), (3,))
        body = let("x", num(2), let("x", ("times", name("x"), num(5)), ("sum", name("x"), ONE)))
        self.body_comes_to(("value", 11, 1), body)

    def test_what_stood_around_stands_again_behind_it(self):
        inner = let("a", num(7), name("a"))
        self.body_comes_to(("value", 73, 1), ("sum", ("times", num(10), inner), name("a")), ("a",), (3,))
        self.body_comes_to(("value", 37, 1), ("sum", ("times", num(10), name("a")), inner), ("a",), (3,))
        body = let("x", num(1), ("less", let("x", num(50), name("x")), name("x")))
        self.body_comes_to(("value", 49, 1), body)
        body = let("x", num(1), ("less", name("x"), let("x", num(50), name("x"))))
        self.body_comes_to(("value", -49, 1), body)

    def test_a_let_in_the_first_tree_of_a_let(self):
        body = let("x", let("y", num(3), ("times", name("y"), name("y"))), ("sum", name("x"), ONE))
        self.body_comes_to(("value", 10, 1), body)
        # The inner one is over a name that its outer let's second tree reads.
        body = let("x", let("a", num(50), ("sum", name("a"), ONE)), ("less", name("x"), name("a")))
        self.body_comes_to(("value", 48, 1), body, ("a",), (3,))
        body = let("x", let("x", num(5), ("sum", name("x"), ONE)), ("times", name("x"), num(2)))
        self.body_comes_to(("value", 12, 1), body)

    def test_lets_within_each_other_and_beside_each_other(self):
        both = ("sum", ("times", name("x"), num(10)), name("y"))
        self.body_comes_to(("value", 34, 1), let("x", num(3), let("y", num(4), both)))
        self.body_comes_to(("value", 14, 1), ("sum", let("x", num(6), name("x")), let("y", num(8), name("y"))))
        tens = let("x", num(1), let("y", num(2), let("x", num(3), both)))
        self.body_comes_to(("value", 32, 1), tens)

    def test_eleven_lets_over_one_name(self):
        body = nested(11, let("x", name("x"), name("x")),
                      lambda tree: let("x", ("sum", name("x"), ONE), tree))
        self.body_comes_to(("value", 15, 1), body, ("x",), (5,))

    def test_a_let_keeps_what_it_was_over_a_call_of_the_same_function(self):
        body = choose(("below", name("n"), ONE), NOUGHT,
                      let("x", name("n"),
                          ("sum", call("f", ("less", name("n"), ONE)),
                           ("times", name("x"), name("x")))))
        self.body_comes_to(("value", 30, 5), body, ("n",), (4,))


class FromTheLeft(BothCase):
    """Of two refusals the first one on the way is told."""

    def test_a_deed(self):
        for word in DEEDS:
            with self.subTest(word):
                self.body_comes_to(("nought", None, 1), (word, BY_NOUGHT, TOO_GREAT))
                self.body_comes_to(("great", None, 1), (word, TOO_GREAT, BY_NOUGHT))

    def test_both_trees_ahead_of_the_deed(self):
        self.body_comes_to(("great", None, 1), ("part", TOO_GREAT, NOUGHT))
        self.body_comes_to(("great", None, 1), ("part", ONE, ("times", NOUGHT, TOO_GREAT)))
        self.body_comes_to(("dry", None, 1), ("part", ONE, ("times", NOUGHT, call("g", ONE, ONE))), fuel=1)
        self.body_comes_to(("nought", None, 2), ("part", call("g", ONE, ONE), NOUGHT))
        self.body_comes_to(("nought", None, 2), ("part", ONE, call("g", ONE, ONE)))

    def test_a_let(self):
        self.body_comes_to(("nought", None, 1), let("x", BY_NOUGHT, TOO_GREAT))
        self.body_comes_to(("great", None, 1), let("x", TOO_GREAT, BY_NOUGHT))
        self.body_comes_to(("nought", None, 1), let("x", BY_NOUGHT, ONE))
        self.body_comes_to(("great", None, 2), let("x", call("g", ONE, ONE), TOO_GREAT))

    def test_the_first_tree_of_a_choose(self):
        self.body_comes_to(("nought", None, 1), choose(BY_NOUGHT, TOO_GREAT, TOO_GREAT))
        self.body_comes_to(("great", None, 2), choose(call("g", ONE, NOUGHT), TOO_GREAT, BY_NOUGHT))
        self.body_comes_to(("nought", None, 2), choose(call("g", ONE, ONE), TOO_GREAT, BY_NOUGHT))

    def test_the_other_tree_of_a_choose_is_not_gone_into(self):
        for wrong in (BY_NOUGHT, TOO_GREAT, call("f"), call("g", BY_NOUGHT, ONE)):
            with self.subTest(wrong):
                self.body_comes_to(("value", 4, 1), choose(num(-3), num(4), wrong))
                self.body_comes_to(("value", 4, 1), choose(NOUGHT, wrong, num(4)))
                self.body_comes_to(("value", 5, 1), ("sum", ONE, choose(NOUGHT, wrong, num(4))))

    def test_the_args_of_a_call(self):
        self.body_comes_to(("nought", None, 1), call("g", BY_NOUGHT, TOO_GREAT))
        self.body_comes_to(("great", None, 1), call("g", TOO_GREAT, BY_NOUGHT))
        self.body_comes_to(("great", None, 2), call("g", call("g", ONE, ONE), TOO_GREAT))

    def test_all_args_ahead_of_the_call(self):
        self.body_comes_to(("nought", None, 1), call("g", ONE, BY_NOUGHT), fuel=1)
        self.body_comes_to(("dry", None, 1), call("g", ONE, ONE), fuel=1)
        # The call in the ARGS is made, the one around it is dry.
        self.body_comes_to(("dry", None, 2), call("g", ONE, call("g", ONE, ONE)), fuel=2)
        self.body_comes_to(("value", 1, 3), call("g", ONE, call("g", ONE, ONE)), fuel=3)

    def test_the_args_ahead_of_what_the_called_function_comes_to(self):
        h = ("h", ("x",), BY_NOUGHT)
        self.comes_to(("great", None, 1), [("f", (), call("h", TOO_GREAT)), h], "f")
        self.comes_to(("nought", None, 2), [("f", (), ("sum", call("h", ONE), TOO_GREAT)), h], "f")

    def test_the_args_at_the_twenty_first_call(self):
        for wrong, word in ((BY_NOUGHT, "nought"), (TOO_GREAT, "great"), (ONE, "deep")):
            body = choose(("below", name("n"), num(20)),
                          call("f", ("sum", name("n"), ONE)), call("f", wrong))
            self.body_comes_to((word, None, 20), body, ("n",), (1,))


class Fuel(BothCase):
    def test_fuel_nought(self):
        self.body_comes_to(("dry", None, 0), ONE, fuel=0)
        self.body_comes_to(("dry", None, 0), BY_NOUGHT, fuel=0)
        self.comes_to(("dry", None, 0), [COUNT], "f", (0,), 0)
        self.comes_to(("dry", None, 0), [ENDLESS], "f", (), 0)

    def test_the_first_call_counts(self):
        self.body_comes_to(("value", 1, 1), ONE, fuel=1)
        self.body_comes_to(("nought", None, 1), BY_NOUGHT, fuel=1)
        self.body_comes_to(("value", 0, 2), call("g", ONE, ONE), fuel=2)

    def test_exactly_enough_and_one_too_little(self):
        for number in (1, 2, 5, 18):
            with self.subTest(number):
                self.comes_to(("value", number, number + 1), [COUNT], "f", (number,), number + 1)
                self.comes_to(("dry", None, number), [COUNT], "f", (number,), number)
                self.comes_to(("value", number, number + 1), [COUNT], "f", (number,), number + 2)

    def test_calls_beside_each_other_count_too(self):
        body = nested(8, call("g", num(3), ONE), lambda tree: ("sum", tree, tree))
        self.body_comes_to(("value", 256, 129), body, fuel=129)
        self.body_comes_to(("dry", None, 128), body, fuel=128)
        self.body_comes_to(("dry", None, 77), body, fuel=77)

    def test_a_call_that_is_refused_is_not_counted(self):
        self.comes_to(("dry", None, 4), [ENDLESS], "f", (), 4)
        self.comes_to(("deep", None, 20), [ENDLESS], "f", (), 400)
        body = ("sum", call("g", ONE, ONE), ("sum", call("g", ONE, ONE), BY_NOUGHT))
        self.body_comes_to(("nought", None, 3), body)
        self.body_comes_to(("dry", None, 2), body, fuel=2)

    def test_much_fuel(self):
        self.comes_to(("value", 3, 4), [COUNT], "f", (3,), 10 ** 30)

    def test_many_calls(self):
        fib = ("fib", ("n",), choose(("below", name("n"), num(2)), name("n"),
                                     ("sum", call("fib", ("less", name("n"), ONE)),
                                      call("fib", ("less", name("n"), num(2))))))
        self.comes_to(("value", 377, 1219), [fib], "fib", (14,), 1219)
        self.comes_to(("dry", None, 1218), [fib], "fib", (14,), 1218)


class Depth(BothCase):
    def test_the_twentieth_call_and_the_twenty_first(self):
        self.comes_to(("value", 18, 19), [COUNT], "f", (18,))
        self.comes_to(("value", 19, 20), [COUNT], "f", (19,))
        self.comes_to(("deep", None, 20), [COUNT], "f", (20,))
        self.comes_to(("deep", None, 20), [COUNT], "f", (1000,))

    def test_too_deep_ahead_of_dry(self):
        self.comes_to(("deep", None, 20), [ENDLESS], "f", (), 20)
        self.comes_to(("deep", None, 20), [ENDLESS], "f", (), 21)
        self.comes_to(("dry", None, 19), [ENDLESS], "f", (), 19)

    def test_calls_that_ended_are_not_going_on(self):
        body = nested(7, call("f", num(18)), lambda tree: ("sum", tree, tree))
        self.comes_to(("value", 64 * 18, 64 * 19 + 1), [COUNT, ("h", (), body)], "h", (), 64 * 19 + 1)
        self.comes_to(("dry", None, 64 * 19), [COUNT, ("h", (), body)], "h", (), 64 * 19)
        self.comes_to(("deep", None, 38), [COUNT, ("h", (), ("sum", call("f", num(17)), call("f", num(19))))],
                      "h")

    def test_calls_in_args_are_not_going_on_in_the_call_itself(self):
        tree = name("n")
        for _ in range(11):
            tree = call("f", tree)
        self.comes_to(("value", 18, 11 * 19 + 1), [COUNT, ("h", ("n",), tree)], "h", (18,))
        self.comes_to(("deep", None, 20), [COUNT, ("h", ("n",), tree)], "h", (19,))

    def test_a_call_that_is_the_whole_body_keeps_the_outer_one_going(self):
        body = choose(name("n"), call("f", ("less", name("n"), ONE)), num(5))
        self.body_comes_to(("value", 5, 20), body, ("n",), (19,))
        self.body_comes_to(("deep", None, 20), body, ("n",), (20,))

    def test_through_several_functions(self):
        program = [("f", ("n",), choose(name("n"), call("h", ("less", name("n"), ONE)), num(1))),
                   ("h", ("n",), choose(name("n"), call("f", ("less", name("n"), ONE)), num(2)))]
        self.comes_to(("value", 2, 20), program, "f", (19,))
        self.comes_to(("value", 1, 20), program, "h", (19,))
        self.comes_to(("deep", None, 20), program, "f", (20,))


class Edge(BothCase):
    """Points 4 and 7 at once: twenty calls, each from the twelfth level of a body."""

    def setUp(self):
        # So few levels of Python's own calls that the 240 levels must not lean on them.
        limit = sys.getrecursionlimit()
        self.addCleanup(sys.setrecursionlimit, limit)
        depth, frame = 0, sys._getframe()
        while frame:
            depth, frame = depth + 1, frame.f_back
        sys.setrecursionlimit(depth + 120)

    def test_it_calls_itself_through_each_kind_of_tree(self):
        for place, around in AROUND.items():
            with self.subTest(place):
                body = nested(12, call("f"), around)
                self.body_comes_to(("deep", None, 20), body)
                self.body_comes_to(("deep", None, 20), body, fuel=20)
                self.body_comes_to(("dry", None, 19), body, fuel=19)

    def test_it_calls_itself_through_all_kinds_of_tree(self):
        body = call("f")
        for around in (list(AROUND.values()) * 2)[:11]:
            body = around(body)
        self.body_comes_to(("deep", None, 20), body)

    def test_a_chain_of_twenty_that_comes_to_a_number(self):
        # What is around the call, eleven times over, makes of the number that came.
        makes = {
            "deed left": lambda number: number + 11, "deed right": lambda number: 1 - number,
            "choose first": lambda number: int(number != 0), "choose second": lambda number: number,
            "choose third": lambda number: number, "let first": lambda number: number,
            "let second": lambda number: number, "call first": lambda number: number - 11,
            "call last": lambda number: 1 - number,
        }
        # A level that is a call makes one, of g, beside that of the chain.
        for place, around in AROUND.items():
            for last in (0, 5):
                with self.subTest(place, last=last):
                    program = self.chain(20, around, num(last))
                    number = last
                    for _ in range(19):
                        number = makes[place](number)
                    made = 20 + (11 * 19 if place.startswith("call") else 0)
                    self.comes_to(("value", number, made), program, "fa", fuel=made)
                    self.comes_to(("dry", None, made - 1), program, "fa", fuel=made - 1)

    def test_a_chain_of_twenty_one(self):
        for place, around in AROUND.items():
            with self.subTest(place):
                self.comes_to(("deep", None, 20), self.chain(21, around, ONE), "fa")
                self.comes_to(("nought", None, 20), self.chain(20, around, BY_NOUGHT), "fa")

    @staticmethod
    def chain(many, around, last):
        names = ["f" + letter for letter in "abcdefghijklmnopqrstu"[:many]]
        program = [(one, (), nested(12, call(other), around)) for one, other in zip(names, names[1:])]
        return program + [(names[-1], (), last), G]


class Words(BothCase):
    """Point 8: each word, with its number or None, and how many calls were made."""

    def test_each_word(self):
        f = ("f", ("n",), choose(name("n"), call("g", num(5), num(2)), BY_NOUGHT))
        self.comes_to(("value", 3, 2), [f, G], "f", (1,))
        self.comes_to(("nought", None, 1), [f, G], "f", (0,))
        self.comes_to(("great", None, 2), [f, ("g", ("p", "q"), TOO_GREAT)], "f", (1,))
        self.comes_to(("deep", None, 20), [f, ("g", ("p", "q"), call("f", ONE))], "f", (1,))
        self.comes_to(("dry", None, 1), [f, G], "f", (1,), 1)

    def test_a_number_of_nought_is_a_value(self):
        self.body_comes_to(("value", 0, 1), NOUGHT)
        self.body_comes_to(("value", 0, 2), call("g", ONE, ONE))

    def test_great_at_both_edges(self):
        self.body_comes_to(("value", MOST, 1), ("sum", num(MOST - 1), ONE))
        self.body_comes_to(("value", -MOST, 1), ("less", num(1 - MOST), ONE))
        self.body_comes_to(("great", None, 1), ("less", num(-MOST), ONE))
        self.body_comes_to(("great", None, 1), ("times", num(1000001), num(-1000000)))

    def test_nought_however_great(self):
        self.body_comes_to(("nought", None, 1), ("part", num(MOST), NOUGHT))


if __name__ == "__main__":
    unittest.main()
