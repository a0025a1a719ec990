"""Points 1 and 6: the five deeds, their edges, and their refusals."""

import unittest

from callsmith.deeds import MOST, reckoned
from callsmith.errors import ByNought, TooGreat

EDGE = 1000000000000


class Deeds(unittest.TestCase):
    def gives(self, word, rows):
        for one, other, number in rows:
            with self.subTest(word=word, one=one, other=other):
                self.assertEqual(reckoned(word, one, other), number)
                self.assertIs(type(reckoned(word, one, other)), int)

    def refuses(self, error, word, rows):
        for one, other in rows:
            with self.subTest(word=word, one=one, other=other):
                with self.assertRaises(error) as caught:
                    reckoned(word, one, other)
                self.assertIs(type(caught.exception), error)

    def test_most(self):
        self.assertEqual(MOST, EDGE)
        self.assertIs(type(MOST), int)

    def test_sum(self):
        self.gives("sum", [(2, 3, 5), (0, 0, 0), (-2, -3, -5), (7, -9, -2), (-7, 9, 2)])

    def test_sum_at_the_edges(self):
        self.gives("sum", [
            (EDGE, 0, EDGE), (EDGE - 1, 1, EDGE), (0, -EDGE, -EDGE), (1 - EDGE, -1, -EDGE),
            (EDGE, -EDGE, 0),
        ])
        self.refuses(TooGreat, "sum", [(EDGE, 1), (1, EDGE), (-EDGE, -1), (-1, -EDGE), (EDGE, EDGE)])

    def test_less(self):
        self.gives("less", [(5, 3, 2), (3, 5, -2), (-2, -3, 1), (-2, 3, -5), (4, 4, 0)])

    def test_less_at_the_edges(self):
        self.gives("less", [
            (EDGE, 0, EDGE), (0, EDGE, -EDGE), (0, -EDGE, EDGE), (EDGE - 1, -1, EDGE),
            (1 - EDGE, 1, -EDGE), (EDGE, EDGE, 0),
        ])
        self.refuses(TooGreat, "less", [(EDGE, -1), (-EDGE, 1), (1, -EDGE), (-1, EDGE), (-EDGE, EDGE)])

    def test_times(self):
        self.gives("times", [(6, 7, 42), (-6, 7, -42), (6, -7, -42), (-6, -7, 42), (0, -7, 0)])

    def test_times_at_the_edges(self):
        self.gives("times", [
            (1000000, 1000000, EDGE), (-1000000, 1000000, -EDGE), (1, EDGE, EDGE),
            (-1, EDGE, -EDGE), (-1, -EDGE, EDGE), (EDGE, 0, 0),
            (EDGE // 2, 2, EDGE), (-EDGE // 2, 2, -EDGE),
        ])
        # 10001 * 99990001 is exactly one beyond.
        self.assertEqual(10001 * 99990001, EDGE + 1)
        self.refuses(TooGreat, "times", [
            (10001, 99990001), (-10001, 99990001), (10001, -99990001), (-10001, -99990001),
            (1000001, 1000000), (EDGE, 2), (EDGE, EDGE), (-EDGE, EDGE),
        ])

    def test_part(self):
        self.gives("part", [(6, 3, 2), (7, 2, 3), (1, 2, 0), (0, 5, 0), (2, 3, 0), (99, 100, 0)])

    def test_part_rounds_down_below_nought(self):
        self.gives("part", [
            (-7, 2, -4), (7, -2, -4), (-7, -2, 3), (-1, 2, -1), (1, -2, -1), (-1, EDGE, -1),
            (1, -EDGE, -1), (-6, 3, -2), (6, -3, -2), (-6, -3, 2), (0, -5, 0),
        ])

    def test_part_is_exact_at_the_edges(self):
        self.gives("part", [
            (EDGE, 1, EDGE), (EDGE, -1, -EDGE), (-EDGE, 1, -EDGE), (-EDGE, -1, EDGE),
            (EDGE, EDGE, 1), (EDGE, -EDGE, -1), (EDGE - 1, EDGE, 0), (1 - EDGE, EDGE, -1),
            (EDGE, 3, 333333333333), (-EDGE, 3, -333333333334),
        ])

    def test_part_beyond_the_edges(self):
        self.refuses(TooGreat, "part", [(EDGE + 1, 1), (-EDGE - 1, 1), (EDGE + 1, -1), (-EDGE - 1, -1)])

    def test_part_by_nought(self):
        self.refuses(ByNought, "part", [
            (1, 0), (0, 0), (-1, 0), (EDGE, 0), (-EDGE, 0), (EDGE + 1, 0),
        ])

    def test_below(self):
        self.gives("below", [
            (2, 3, 1), (3, 3, 0), (4, 3, 0), (-4, -3, 1), (-3, -4, 0), (-1, 0, 1), (0, -1, 0),
            (0, 0, 0), (EDGE, -EDGE, 0), (-EDGE, EDGE, 1), (EDGE, EDGE, 0), (EDGE - 1, EDGE, 1),
            (-EDGE, 1 - EDGE, 1),
        ])

    def test_nought_is_refused_by_part_alone(self):
        self.gives("sum", [(3, 0, 3)])
        self.gives("less", [(3, 0, 3)])
        self.gives("times", [(3, 0, 0)])
        self.gives("below", [(3, 0, 0)])

    def test_numbers_beyond_are_refused_by_what_comes_of_them_alone(self):
        self.gives("sum", [(EDGE + 1, -1, EDGE)])
        self.gives("less", [(EDGE + 5, 5, EDGE), (EDGE + 5, EDGE, 5)])
        self.gives("part", [(EDGE + 2, 2, EDGE // 2 + 1)])
        self.gives("below", [(EDGE, EDGE + 1, 1), (EDGE + 1, EDGE, 0)])
        self.refuses(TooGreat, "sum", [(EDGE + 1, 0)])

    def test_a_number_of_very_many_digits_is_too_great(self):
        # Beyond what Python writes out in digits, so no message may show it.
        self.refuses(TooGreat, "times", [(10 ** 5000, 10 ** 5000)])
        self.refuses(ByNought, "part", [(10 ** 5000, 0)])


if __name__ == "__main__":
    unittest.main()
