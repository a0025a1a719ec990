"""Points 1 to 5: what a program is refused for, and in which order."""

import copy
import unittest

from callsmith.errors import NameTwice, NoSuchFunction, NoSuchName, TooTall, WrongCount
from callsmith.trees import checked

ONE = ("num", 1)
NO_NAME = ("name", "nowhere")
NO_FUNCTION = ("call", "missing", ())
# Of the function f, which takes two things in these tests.
WRONG = ("call", "f", (ONE,))


def name(word):
    return ("name", word)


def main(body, takes=("a", "b")):
    return ("f", takes, body)


def tower(levels, top=ONE):
    """A tree that is so many levels high, with `top` the first tree at the deepest level."""
    tree = top
    for _ in range(levels - 1):
        tree = ("sum", tree, ONE)
    return tree


def leaning(levels):
    """A tree that is so many levels high at its right side alone."""
    tree = ("call", "g", ())
    for _ in range(levels - 1):
        tree = ("choose", ONE, ONE, tree)
    return tree


def towers(levels, top):
    """The same, through every kind of tree that has others within it, first or last."""
    inner = tower(levels - 1, top)
    return {
        "deed left": ("less", inner, ONE),
        "deed right": ("part", ONE, inner),
        "choose first": ("choose", inner, ONE, ONE),
        "choose second": ("choose", ONE, inner, ONE),
        "choose third": ("choose", ONE, ONE, inner),
        "let first": ("let", "x", inner, ONE),
        "let second": ("let", "x", ONE, inner),
        "call first": ("call", "f", (inner, ONE)),
        "call last": ("call", "f", (ONE, inner)),
    }


class CheckedCase(unittest.TestCase):
    def refused(self, error, program):
        before = copy.deepcopy(program)
        with self.assertRaises(error) as caught:
            checked(program)
        self.assertIs(type(caught.exception), error)
        self.assertEqual(program, before)

    def right(self, program, counts):
        before = copy.deepcopy(program)
        found = checked(program)
        self.assertIs(type(found), dict)
        self.assertEqual(list(found.items()), list(counts.items()))
        self.assertEqual(program, before)


class RightPrograms(CheckedCase):
    def test_one_function(self):
        self.right([main(("sum", name("a"), name("b")))], {"f": 2})

    def test_counts_come_in_the_order_of_the_functions(self):
        program = [
            ("z", ("a",), name("a")),
            ("b", (), ONE),
            ("m", ("p", "q", "r", "s", "t", "u"), name("u")),
            ("a", ("x", "y"), name("y")),
        ]
        self.right(program, {"z": 1, "b": 0, "m": 6, "a": 2})
        self.right(program[::-1], {"a": 2, "m": 6, "b": 0, "z": 1})

    def test_twenty_functions(self):
        letters = "abcdefghijklmnopqrst"
        self.right([(word, (), ONE) for word in letters], dict.fromkeys(letters, 0))

    def test_somewhat_beyond_what_programs_are(self):
        letters = "abcdefghijklmnopqrstuvwxyz"
        self.right([(word, (), ONE) for word in letters], dict.fromkeys(letters, 0))
        self.right([("f", tuple("abcdefgh"), ("num", 10 ** 13))], {"f": 8})
        self.right([("verylongname", ("alsoverylong",), name("alsoverylong"))], {"verylongname": 1})
        self.right([], {})

    def test_a_function_that_comes_later_may_be_called(self):
        self.right([main(("call", "g", (ONE,))), ("g", ("x",), name("x"))], {"f": 2, "g": 1})

    def test_a_function_may_call_itself_and_one_ahead(self):
        program = [main(("call", "f", (ONE, ONE))), ("g", (), ("call", "f", (ONE, ("call", "g", ()))))]
        self.right(program, {"f": 2, "g": 0})

    def test_names_and_functions_do_not_meet(self):
        self.right([("f", ("f",), ("call", "f", (name("f"),))), ("a", ("f", "a"), name("a"))],
                   {"f": 1, "a": 2})

    def test_two_functions_may_take_the_same_names(self):
        self.right([main(name("a")), ("g", ("a", "b"), name("b"))], {"f": 2, "g": 2})

    def test_every_kind_of_tree(self):
        body = ("let", "x", ("less", name("a"), ("times", ONE, name("b"))),
                ("choose", ("below", name("x"), ONE),
                 ("part", name("x"), name("a")),
                 ("call", "f", (("sum", name("x"), ONE), name("b")))))
        self.right([main(body)], {"f": 2})


class Names(CheckedCase):
    def test_a_name_that_is_not_taken(self):
        self.refused(NoSuchName, [main(name("c"))])
        self.refused(NoSuchName, [main(name("a"), ())])

    def test_a_name_of_another_function(self):
        self.refused(NoSuchName, [main(name("a")), ("g", ("x",), name("a"))])
        self.refused(NoSuchName, [main(name("x")), ("g", ("x",), name("x"))])

    def test_the_name_of_a_function_stands_for_nothing(self):
        self.refused(NoSuchName, [main(name("f"))])

    def test_it_is_found_in_every_place(self):
        for place, tree in towers(3, NO_NAME).items():
            with self.subTest(place):
                self.refused(NoSuchName, [main(tree)])
        self.refused(NoSuchName, [main(("choose", ("num", 0), NO_NAME, ONE))])

    def test_a_let_stands_in_its_second_tree(self):
        self.right([main(("let", "x", ONE, name("x")))], {"f": 2})
        self.right([main(("let", "x", ONE, tower(11, name("x"))))], {"f": 2})

    def test_a_let_does_not_stand_in_its_first_tree(self):
        self.refused(NoSuchName, [main(("let", "x", name("x"), ONE))])
        self.refused(NoSuchName, [main(("let", "x", ("sum", ONE, name("x")), name("x")))])

    def test_a_let_does_not_stand_beside_itself(self):
        let = ("let", "x", ONE, name("x"))
        self.refused(NoSuchName, [main(("sum", let, name("x")))])
        self.refused(NoSuchName, [main(("sum", name("x"), let))])
        self.refused(NoSuchName, [main(("choose", let, let, name("x")))])
        self.refused(NoSuchName, [main(("call", "f", (let, name("x"))))])
        self.refused(NoSuchName, [main(("let", "y", let, name("x")))])

    def test_a_let_does_not_stand_in_the_next_function(self):
        self.refused(NoSuchName, [main(("let", "x", ONE, name("x"))), ("g", (), name("x"))])

    def test_a_let_within_the_first_tree_of_a_let(self):
        self.right([main(("let", "x", ("let", "y", ONE, name("y")), name("x")))], {"f": 2})
        self.refused(NoSuchName, [main(("let", "x", ("let", "y", ONE, name("x")), ONE))])
        self.refused(NoSuchName, [main(("let", "x", ("let", "y", ONE, ONE), name("y")))])

    def test_lets_within_each_other(self):
        both = ("sum", name("x"), ("sum", name("y"), name("a")))
        self.right([main(("let", "x", ONE, ("let", "y", name("x"), both)))], {"f": 2})

    def test_a_let_over_a_name_that_stands_already(self):
        self.right([main(("let", "a", name("a"), name("a")))], {"f": 2})
        self.right([main(("let", "x", ONE, ("let", "x", name("x"), name("x"))))], {"f": 2})
        inner = ("let", "x", name("x"), name("x"))
        self.right([main(("let", "x", ONE, ("sum", inner, name("x"))))], {"f": 2})
        self.right([main(("sum", ("let", "a", ONE, name("a")), name("a")))], {"f": 2})


class Heights(CheckedCase):
    def test_twelve_levels_stand(self):
        self.right([main(tower(12))], {"f": 2})
        for place, tree in towers(12, name("a")).items():
            with self.subTest(place):
                self.right([main(tree)], {"f": 2})

    def test_a_call_of_none_at_level_twelve_stands(self):
        self.right([("g", (), tower(12, ("call", "g", ())))], {"g": 0})

    def test_thirteen_levels_are_refused(self):
        self.refused(TooTall, [main(tower(13))])
        for place, tree in towers(13, ONE).items():
            with self.subTest(place):
                self.refused(TooTall, [main(tree)])

    def test_what_a_call_at_level_twelve_is_given_is_refused(self):
        self.refused(TooTall, [main(tower(12, ("call", "f", (ONE, ONE))))])

    def test_levels_count_at_the_right_side_too(self):
        self.right([("g", (), leaning(12))], {"g": 0})
        self.refused(TooTall, [("g", (), leaning(13))])

    def test_more_levels_are_refused(self):
        self.refused(TooTall, [main(tower(14))])
        self.refused(TooTall, [main(tower(200))])

    def test_each_body_has_levels_of_its_own(self):
        self.right([main(tower(12)), ("g", (), tower(12))], {"f": 2, "g": 0})
        self.refused(TooTall, [main(tower(12)), ("g", (), tower(13))])

    def test_at_level_thirteen_it_is_too_tall_whatever_else_is_wrong(self):
        for top in (NO_NAME, NO_FUNCTION, WRONG):
            with self.subTest(top):
                self.refused(TooTall, [main(tower(13, top))])

    def test_at_level_twelve_it_is_refused_for_what_it_is(self):
        self.refused(NoSuchName, [main(tower(12, NO_NAME))])
        self.refused(NoSuchFunction, [main(tower(12, NO_FUNCTION))])
        self.refused(WrongCount, [main(tower(12, WRONG))])


class Calls(CheckedCase):
    def test_no_such_function(self):
        self.refused(NoSuchFunction, [main(NO_FUNCTION)])
        self.refused(NoSuchFunction, [main(("call", "a", ()))])
        self.refused(NoSuchFunction, [main(("let", "x", ONE, ("call", "x", ())))])

    def test_wrong_count(self):
        for given in ((), (ONE,), (ONE, ONE, ONE), (ONE,) * 7):
            with self.subTest(given=len(given)):
                self.refused(WrongCount, [main(("call", "f", given))])

    def test_wrong_count_of_a_function_that_takes_nothing(self):
        self.refused(WrongCount, [main(("call", "g", (ONE,))), ("g", (), ONE)])

    def test_wrong_count_of_a_function_ahead(self):
        self.refused(WrongCount, [main(ONE), ("g", (), WRONG)])

    def test_both_are_found_in_every_place(self):
        for place, tree in towers(3, NO_FUNCTION).items():
            with self.subTest(place):
                self.refused(NoSuchFunction, [main(tree)])
        for place, tree in towers(3, WRONG).items():
            with self.subTest(place):
                self.refused(WrongCount, [main(tree)])


class Twice(CheckedCase):
    def test_two_functions_of_one_name(self):
        self.refused(NameTwice, [main(ONE), main(ONE)])
        self.refused(NameTwice, [main(ONE), ("g", (), ONE), ("f", (), ONE)])

    def test_two_names_that_it_takes_are_alike(self):
        self.refused(NameTwice, [main(ONE, ("a", "a"))])
        self.refused(NameTwice, [main(ONE, ("a", "b", "c", "d", "e", "a"))])
        self.refused(NameTwice, [main(ONE), ("g", ("b", "c", "c"), ONE)])

    def test_of_two_functions_of_one_name_the_first_counts(self):
        # The first body is looked at ahead of the second name.
        first, second = ("g", ("x",), ONE), ("g", (), ONE)
        self.refused(WrongCount, [main(("call", "g", ())), first, second])
        self.refused(NameTwice, [main(("call", "g", (ONE,))), first, second])
        self.refused(WrongCount, [main(("call", "g", (ONE,))), second, first])
        self.refused(NameTwice, [main(("call", "g", ())), second, first])

    def test_of_two_functions_of_one_name_the_first_counts_for_itself(self):
        self.refused(WrongCount, [("g", ("x",), ("call", "g", ())), ("g", (), ONE)])
        self.refused(NameTwice, [("g", ("x",), ("call", "g", (ONE,))), ("g", (), ONE)])


class WhatComesFirst(CheckedCase):
    def test_names_ahead_of_the_body_of_one_function(self):
        for body in (NO_NAME, NO_FUNCTION, WRONG, tower(13)):
            with self.subTest(body):
                self.refused(NameTwice, [main(body, ("a", "a"))])
                self.refused(NameTwice, [main(ONE), main(body)])

    def test_a_body_ahead_of_the_next_function(self):
        for error, body in ((NoSuchName, NO_NAME), (NoSuchFunction, NO_FUNCTION),
                            (WrongCount, WRONG), (TooTall, tower(13))):
            with self.subTest(error):
                self.refused(error, [main(body), main(ONE)])
                self.refused(error, [main(body), ("g", ("a", "a"), ONE)])
                self.refused(error, [main(ONE), ("g", (), body), ("g", ("a", "a"), ONE)])

    def test_one_function_ahead_of_the_next(self):
        wrongs = ((NoSuchName, NO_NAME), (NoSuchFunction, NO_FUNCTION),
                  (WrongCount, WRONG), (TooTall, tower(13)))
        for error, body in wrongs:
            for _, other in wrongs:
                with self.subTest(error, other=other):
                    self.refused(error, [main(body), ("g", (), other)])
                    self.refused(error, [("g", (), body), main(other)])

    def test_a_call_ahead_of_the_trees_within_it(self):
        self.refused(NoSuchFunction, [main(("call", "missing", (NO_NAME,)))])
        self.refused(NoSuchFunction, [main(("call", "missing", (WRONG,)))])
        self.refused(WrongCount, [main(("call", "f", (NO_NAME,)))])
        self.refused(WrongCount, [main(("call", "f", (NO_FUNCTION,)))])
        self.refused(WrongCount, [main(tower(12, WRONG))])
        self.refused(NoSuchFunction, [main(tower(12, ("call", "missing", (ONE,))))])

    def test_trees_within_from_the_left(self):
        wrongs = ((NoSuchName, NO_NAME), (NoSuchFunction, NO_FUNCTION),
                  (WrongCount, WRONG), (TooTall, tower(13)))
        for error, left in wrongs:
            for _, right in wrongs:
                for tree in (("sum", left, right), ("below", left, right),
                             ("choose", left, right, ONE), ("choose", ONE, left, right),
                             ("choose", left, ONE, right), ("let", "x", left, right),
                             ("call", "f", (left, right))):
                    with self.subTest(error, tree=tree):
                        self.refused(error, [main(tree)])

    def test_all_of_the_left_tree_ahead_of_the_right_one(self):
        deep = ("sum", ONE, ("times", ONE, NO_NAME))
        self.refused(NoSuchName, [main(("sum", deep, NO_FUNCTION))])
        self.refused(NoSuchFunction, [main(("sum", NO_FUNCTION, deep))])
        self.refused(TooTall, [main(("sum", tower(12), NO_FUNCTION))])
        self.refused(NoSuchFunction, [main(("sum", tower(11), NO_FUNCTION))])


if __name__ == "__main__":
    unittest.main()
