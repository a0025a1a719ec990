"""Points 7 to 9: how the machine does rows, also those of a Code that was made by hand."""

import copy
import unittest

from callsmith.errors import NoSuchFunction, WrongCount
from callsmith.machine import run
from callsmith.smith import Code, smithed
from tests.samples import (BY_NOUGHT, DEEDS, G, MOST, ONE, TOO_GREAT, BothCase, call, choose, let,
                           name, num)

BACK = ("back",)


class HandCase(BothCase):
    def runs(self, outcome, rows, start=(0, 0, 0), values=(), fuel=1000):
        """Of rows by hand, of which f begins at that start, alone."""
        self.code_runs(outcome, Code(rows, {"f": start}), "f", list(values), fuel)

    def code_runs(self, outcome, code, function, values, fuel):
        before = copy.deepcopy((code.rows, code.starts, values))
        # Twice, as a run leaves nothing behind for the next one.
        for _ in range(2):
            found = run(code, function, values, fuel)
            self.assertEqual(found, outcome)
            self.assertIs(type(found), tuple)
            self.assertEqual([type(part) for part in found], [type(part) for part in outcome])
        self.assertEqual((code.rows, code.starts, values), before)
        self.assertEqual(list(code.starts), list(before[1]))


class EachRow(HandCase):
    def test_push(self):
        for number in (0, 5, -5, MOST, -MOST):
            self.runs(("value", number, 1), [("push", number), BACK])

    def test_load(self):
        for slot in range(3):
            self.runs(("value", 40 + slot, 1), [("load", slot), BACK], (0, 3, 3), (40, 41, 42))

    def test_load_leaves_the_slot(self):
        self.runs(("value", 14, 1), [("load", 0), ("load", 0), ("do", "sum"), BACK], (0, 1, 1), (7,))

    def test_keep(self):
        self.runs(("value", 1, 1), [("push", 1), ("push", 2), ("keep", 0), BACK], (0, 0, 1))
        self.runs(("value", 3, 1), [("push", 3), ("keep", 1), ("load", 1), BACK], (0, 1, 2), (9,))
        self.runs(("value", 9, 1), [("push", 3), ("keep", 1), ("load", 0), BACK], (0, 1, 2), (9,))

    def test_keep_over_what_a_slot_had(self):
        self.runs(("value", 5, 1), [("push", 5), ("keep", 0), ("load", 0), BACK], (0, 1, 1), (9,))
        self.runs(("value", 6, 1), [("push", 5), ("keep", 0), ("push", 6), ("keep", 0), ("load", 0), BACK],
                  (0, 0, 1))

    def test_a_slot_that_was_never_kept(self):
        self.runs(("value", 0, 1), [("load", 0), BACK], (0, 0, 1))
        self.runs(("value", 0, 1), [("load", 5), BACK], (0, 2, 6), (8, 9))
        self.runs(("value", 9, 1), [("load", 1), BACK], (0, 2, 6), (8, 9))

    def test_do_takes_the_second_number_from_above(self):
        for word, number in zip(DEEDS, (9, 5, 14, 3, 0)):
            self.runs(("value", number, 1), [("push", 7), ("push", 2), ("do", word), BACK])
        for word, number in zip(DEEDS, (9, -5, 14, 0, 1)):
            self.runs(("value", number, 1), [("push", 2), ("push", 7), ("do", word), BACK])

    def test_do_takes_two_alone(self):
        self.runs(("value", 98, 1), [("push", 100), ("push", 5), ("push", 3), ("do", "less"),
                                     ("do", "less"), BACK])

    def test_do_is_refused(self):
        self.runs(("nought", None, 1), [("push", 1), ("push", 0), ("do", "part"), BACK])
        self.runs(("great", None, 1), [("push", MOST), ("push", 1), ("do", "sum"), BACK])

    def test_unless(self):
        rows = [("load", 0), ("unless", 4), ("push", 1), BACK, ("push", 2), BACK]
        for number, came in ((0, 2), (1, 1), (-1, 1), (MOST, 1)):
            self.runs(("value", came, 1), rows, (0, 1, 1), (number,))

    def test_unless_takes_the_top(self):
        rows = [("push", 7), ("load", 0), ("unless", 4), BACK, BACK]
        for number in (0, 1):
            self.runs(("value", 7, 1), rows, (0, 1, 1), (number,))

    def test_skip(self):
        self.runs(("value", 2, 1), [("skip", 3), ("push", 1), BACK, ("push", 2), BACK])
        self.runs(("value", 2, 1), [("push", 2), ("skip", 2), BACK])

    def test_skip_and_unless_back(self):
        # From row 3 on back to row 0.
        self.runs(("value", 4, 1), [("push", 4), BACK, ("push", 5), ("skip", 0)], (3, 0, 0))
        self.runs(("value", 4, 1), [("push", 4), BACK, ("push", 0), ("unless", 0)], (2, 0, 0))

    def test_an_unless_to_its_own_next_row(self):
        for number in (0, 1):
            self.runs(("value", 3, 1), [("load", 0), ("unless", 2), ("push", 3), BACK], (0, 1, 1), (number,))

    def test_rows_behind_the_last_back_are_not_done(self):
        self.runs(("value", 1, 1), [("push", 1), BACK, ("push", 1), ("push", 0), ("do", "part"), BACK])


class Calls(HandCase):
    def test_it_takes_the_numbers_on_top_the_lowest_first(self):
        rows = [("push", 1), ("push", 2), ("push", 3), ("call", 5, 2, 2), ("skip", 9),
                ("load", 0), ("push", 10), ("do", "times"), ("skip", 11),
                ("do", "less"), BACK, ("load", 1), ("do", "sum"), BACK]
        # 1 less what 2 and 3 make, which is 23.
        self.runs(("value", -22, 2), rows)

    def test_a_call_of_none_takes_nothing(self):
        rows = [("push", 8), ("push", 3), ("call", 5, 0, 0), ("do", "less"), ("skip", 7),
                ("push", 1), BACK, ("do", "sum"), BACK]
        self.runs(("value", 10, 2), rows)

    def test_the_slots_of_a_call_are_new(self):
        # The called rows read slot 1, keep 5 in it, and are called twice.
        rows = [("push", 9), ("keep", 1), ("push", 4), ("call", 10, 1, 2),
                ("push", 4), ("call", 10, 1, 2), ("do", "sum"), ("load", 1), ("do", "sum"), BACK,
                ("load", 1), ("push", 5), ("keep", 1), ("load", 0), ("do", "sum"), BACK]
        self.runs(("value", 17, 3), rows, (0, 1, 2), (1,))

    def test_slots_stand_again_behind_back(self):
        rows = [("push", 6), ("call", 5, 1, 1), ("load", 0), ("do", "sum"), BACK,
                ("push", 50), ("keep", 0), ("push", 0), BACK]
        self.runs(("value", 7, 2), rows, (0, 1, 1), (7,))

    def test_back_goes_on_behind_the_row_of_its_call(self):
        rows = [("push", 0), ("call", 9, 0, 0), ("do", "sum"), ("call", 7, 0, 0), ("do", "sum"),
                ("call", 9, 0, 0), ("skip", 11), ("call", 9, 0, 0), BACK, ("push", 3), BACK,
                ("do", "times"), BACK]
        self.runs(("value", 18, 5), rows)

    def test_calls_into_the_midst_of_the_rows(self):
        # f is rows 0 to 3; called at row 2 it does the last part of them alone.
        rows = [("push", 20), ("keep", 0), ("load", 0), BACK,
                ("push", 8), ("call", 2, 1, 1), ("call", 2, 0, 1), ("do", "sum"),
                ("call", 0, 0, 1), ("do", "sum"), BACK]
        self.runs(("value", 28, 4), rows, (4, 0, 0))
        self.runs(("value", 20, 1), rows, (0, 0, 1))
        self.runs(("value", 0, 1), rows, (2, 0, 1))
        # Into the midst of the rows that are being done.
        rows = [("load", 0), ("unless", 5), ("push", 0), ("call", 0, 1, 1), ("skip", 6),
                ("push", 9), BACK]
        self.runs(("value", 9, 2), rows, (0, 1, 1), (1,))

    def test_calls_go_by_their_rows_and_not_by_the_starts(self):
        rows = [("push", 5), ("call", 3, 1, 4), BACK, ("load", 3), ("load", 0), ("do", "sum"), BACK]
        for other in ((3, 1, 4, 2), (3, 2, 2, 1), (0, 0, 0), ()):
            self.code_runs(("value", 5, 2), Code(rows, {"f": (0, 0, 0, 1), "g": other}), "f", [], 2)
        self.code_runs(("value", 5, 2), Code(rows, {"f": (0, 0, 0)}), "f", [], 2)

    def test_room_for_more_than_is_taken(self):
        self.runs(("value", 0, 2), [("push", 5), ("call", 3, 1, 30), BACK, ("load", 29), BACK])
        self.runs(("value", 5, 2), [("push", 5), ("call", 3, 1, 30), BACK, ("load", 0), BACK])


class RefusedCalls(HandCase):
    # Of a number n: n calls of itself within each other, and then the number 7.
    DOWN = [("load", 0), ("unless", 7), ("load", 0), ("push", 1), ("do", "less"), ("call", 0, 1, 1), BACK,
            ("push", 7), BACK]

    def test_fuel(self):
        self.runs(("dry", None, 0), [("push", 1), BACK], fuel=0)
        self.runs(("value", 1, 1), [("push", 1), BACK], fuel=1)
        self.runs(("value", 7, 4), self.DOWN, (0, 1, 1), (3,), 4)
        self.runs(("dry", None, 3), self.DOWN, (0, 1, 1), (3,), 3)
        self.runs(("value", 7, 4), self.DOWN, (0, 1, 1), (3,), 5)

    def test_depth(self):
        self.runs(("value", 7, 20), self.DOWN, (0, 1, 1), (19,))
        self.runs(("value", 7, 20), self.DOWN, (0, 1, 1), (19,), 20)
        self.runs(("deep", None, 20), self.DOWN, (0, 1, 1), (20,))

    def test_too_deep_ahead_of_dry(self):
        rows = [("call", 0, 0, 0), BACK]
        self.runs(("deep", None, 20), rows, fuel=20)
        self.runs(("deep", None, 20), rows, fuel=21)
        self.runs(("dry", None, 19), rows, fuel=19)

    def test_calls_that_ended_are_not_going_on(self):
        # Slot 0 counts down 300 rounds, each with a call.
        rows = [("load", 0), ("unless", 10), ("call", 12, 0, 0), ("load", 0), ("push", 1), ("do", "less"),
                ("keep", 0), ("keep", 1), ("skip", 0), BACK, ("load", 1), BACK, ("push", 6), BACK]
        self.runs(("value", 6, 301), rows, (0, 1, 2), (300,))
        self.runs(("value", 6, 301), rows, (0, 1, 2), (300,), 301)
        self.runs(("dry", None, 300), rows, (0, 1, 2), (300,), 300)

    def test_a_deed_ahead_of_the_call_is_refused_first(self):
        self.runs(("nought", None, 1), [("push", 1), ("push", 0), ("do", "part"), ("call", 0, 1, 1), BACK],
                  fuel=1)


class Rounds(HandCase):
    # Slot 0 is counted down to nought, slot 1 is the sum of all it was.
    ROWS = [("load", 0), ("unless", 11), ("load", 1), ("load", 0), ("do", "sum"), ("keep", 1),
            ("load", 0), ("push", 1), ("do", "less"), ("keep", 0), ("skip", 0), ("load", 1), BACK]

    def test_some_hundreds_of_rounds(self):
        for number in (0, 1, 2, 60, 500):
            self.runs(("value", number * (number + 1) // 2, 1), self.ROWS, (0, 1, 2), (number,), 1)

    def test_a_round_that_ends_in_a_refusal(self):
        # Twofold in each round, till it is beyond.
        rows = [("load", 0), ("push", 2), ("do", "times"), ("keep", 0), ("skip", 0)]
        self.runs(("great", None, 1), rows, (0, 1, 1), (1,))
        self.runs(("great", None, 1), rows, (0, 1, 1), (-3,))

    def test_an_unless_that_goes_back(self):
        # Adds 3 till it is above 1000.
        rows = [("load", 0), ("push", 3), ("do", "sum"), ("keep", 0), ("push", 1000), ("load", 0),
                ("do", "below"), ("unless", 0), ("load", 0), BACK]
        self.runs(("value", 1002, 1), rows, (0, 1, 1), (0,))


class StartsByHand(HandCase):
    ROWS = [("load", 0), BACK, ("load", 1), BACK, ("load", 1), ("load", 0), ("do", "less"), BACK]

    def test_in_another_order_than_the_rows(self):
        starts = {"c": (4, 2, 2, 2), "a": (0, 1, 1, 1), "b": (2, 2, 2, 1)}
        for order in ("abc", "cab", "bca", "cba"):
            code = Code(self.ROWS, {function: starts[function] for function in order})
            self.code_runs(("value", 5, 1), code, "a", [5], 1)
            self.code_runs(("value", 6, 1), code, "b", [5, 6], 1)
            self.code_runs(("value", 1, 1), code, "c", [5, 6], 1)

    def test_of_three_parts_and_of_four(self):
        for fourth in ((), (2,), (0,), (1000,), (None,)):
            code = Code(self.ROWS, {"c": (4, 2, 2) + fourth})
            self.code_runs(("value", 1, 1), code, "c", [5, 6], 1)

    def test_of_the_one_asked_for_alone(self):
        code = smithed([("f", ("a",), ("sum", call("g", name("a"), ONE), num(10))), G])
        alone = Code(code.rows, {"f": code.starts["f"][:3]})
        self.code_runs(("value", 14, 2), alone, "f", [5], 2)
        self.refused(NoSuchFunction, run, alone, "g", [5, 6], 2)
        other = Code(code.rows, {"g": code.starts["g"]})
        self.code_runs(("value", -1, 1), other, "g", [5, 6], 2)

    def test_several_names_of_the_same_rows(self):
        code = Code(self.ROWS, {"one": (0, 1, 1), "two": (0, 1, 1), "three": (1, 1, 1), "four": (0, 2, 3)})
        self.code_runs(("value", 5, 1), code, "one", [5], 1)
        self.code_runs(("value", 5, 1), code, "two", [5], 1)
        self.code_runs(("value", 5, 1), code, "four", [5, 6], 1)

    def test_slots_beyond_what_it_takes_are_nought(self):
        self.code_runs(("value", 0, 1), Code(self.ROWS, {"b": (2, 1, 2)}), "b", [5], 1)

    def test_a_code_of_other_make(self):
        class Other:
            rows = [("push", 3), BACK]
            starts = {"f": (0, 0, 0)}
        self.assertEqual(run(Other(), "f", [], 1), ("value", 3, 1))


class NotFound(HandCase):
    def test_no_such_function(self):
        code = Code([("load", 0), BACK], {"f": (0, 1, 1)})
        for fuel in (0, 1, 5):
            self.refused(NoSuchFunction, run, code, "g", [1], fuel)
            self.refused(NoSuchFunction, run, code, "g", [], fuel)
            self.refused(NoSuchFunction, run, Code([], {}), "f", [], fuel)

    def test_wrong_count(self):
        code = Code([("load", 0), BACK], {"f": (0, 1, 1), "g": (0, 0, 1, 1)})
        for fuel in (0, 1, 5):
            self.refused(WrongCount, run, code, "f", [], fuel)
            self.refused(WrongCount, run, code, "f", [1, 2], fuel)
            self.refused(WrongCount, run, code, "g", [1], fuel)

    def test_how_many_it_takes_is_not_how_many_slots_it_has(self):
        code = smithed([("f", ("a",), let("x", ONE, let("y", ONE, name("a"))))])
        self.code_runs(("value", 5, 1), code, "f", [5], 1)
        self.refused(WrongCount, run, code, "f", [5, 6], 1)
        self.refused(WrongCount, run, code, "f", [5, 6, 7], 1)


class SmithedCode(HandCase):
    def test_several_runs_of_one_code(self):
        body = choose(("below", name("n"), ONE), BY_NOUGHT,
                      choose(("below", name("n"), num(2)), TOO_GREAT,
                             choose(("below", name("n"), num(3)), call("f", name("n")),
                                    let("x", call("g", name("n"), ONE), name("x")))))
        code = smithed([("f", ("n",), body), G])
        for _ in range(3):
            self.code_runs(("nought", None, 1), code, "f", [0], 9)
            self.code_runs(("great", None, 1), code, "f", [1], 9)
            self.code_runs(("dry", None, 9), code, "f", [2], 9)
            self.code_runs(("deep", None, 20), code, "f", [2], 90)
            self.code_runs(("value", 4, 2), code, "f", [5], 9)
            self.code_runs(("value", 3, 1), code, "g", [5, 2], 9)


if __name__ == "__main__":
    unittest.main()
