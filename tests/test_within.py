"""Point 2: the trees right within a tree of each kind."""

import copy
import unittest

from callsmith.trees import within

A = ("num", 1)
B = ("name", "x")
C = ("sum", ("num", 2), ("num", 3))

KINDS = {
    "num": (("num", 5), []),
    "num nought": (("num", 0), []),
    "num below": (("num", -1000000000000), []),
    "name": (("name", "abcdefgh"), []),
    "sum": (("sum", A, B), [A, B]),
    "less": (("less", B, A), [B, A]),
    "times": (("times", A, C), [A, C]),
    "part": (("part", C, A), [C, A]),
    "below": (("below", C, B), [C, B]),
    "a deed on two alike": (("sum", C, C), [C, C]),
    "choose": (("choose", A, B, C), [A, B, C]),
    "let": (("let", "x", C, B), [C, B]),
    "call of none": (("call", "f", ()), []),
    "call of one": (("call", "f", (C,)), [C]),
    "call of several": (("call", "f", (C, A, B, A)), [C, A, B, A]),
    "call of seven": (("call", "f", (A, B, C, A, B, C, A)), [A, B, C, A, B, C, A]),
    "names like the kinds": (("let", "call", ("call", "let", ()), ("name", "num")),
                             [("call", "let", ()), ("name", "num")]),
}


class Within(unittest.TestCase):
    def test_each_kind(self):
        for kind, (tree, trees) in KINDS.items():
            with self.subTest(kind):
                self.assertEqual(within(tree), trees)

    def test_it_gives_a_list(self):
        for kind, (tree, _) in KINDS.items():
            with self.subTest(kind):
                self.assertIs(type(within(tree)), list)

    def test_the_tree_stays(self):
        for kind, (tree, trees) in KINDS.items():
            with self.subTest(kind):
                before = copy.deepcopy(tree)
                found = within(tree)
                found.append(A)
                found.reverse()
                self.assertEqual(tree, before)
                self.assertEqual(within(tree), trees)


if __name__ == "__main__":
    unittest.main()
