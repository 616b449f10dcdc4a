"""Units, widths, steps, codes, and limits that are fit."""

import unittest

from surebounds.sizes import are_fit, code_limits, is_nominal, step, unit, width

NOMINALS = (1, 2, 110, 111, 112, 888, 889, 250000, 1000000, 5000000, 2136620352, 2136620353, 2147483647)
BILLION = 1073741824


class Units(unittest.TestCase):

    def test_edges(self):
        told = {1: 1, 111: 1, 112: 2, 888: 2, 889: 3, 250000: 14, 2136620352: 268, 2136620353: 269, 2147483647: 269}
        self.assertEqual({nominal: unit(nominal) for nominal in told}, told)

    def test_least_with_enough(self):
        for nominal in NOMINALS:
            found = unit(nominal)
            self.assertGreaterEqual(111 * found ** 3, nominal)
            self.assertTrue(found == 1 or 111 * (found - 1) ** 3 < nominal)


class Widths(unittest.TestCase):

    def test_least_with_enough(self):
        for nominal in NOMINALS:
            for grade in range(22):
                found = width(grade, nominal)
                square = unit(nominal) ** 2 * 2 ** grade
                self.assertGreaterEqual(found ** 2, square)
                self.assertLess((found - 1) ** 2, square)

    def test_some_as_numbers(self):
        self.assertEqual([width(grade, 250000) for grade in (0, 1, 2, 7, 16, 21)], [14, 20, 28, 159, 3584, 20275])
        self.assertEqual([width(grade, 1) for grade in (0, 1, 2, 3, 4)], [1, 2, 2, 3, 4])

    def test_steps(self):
        for nominal in NOMINALS:
            self.assertEqual(step(0, nominal), 0)
            for number in range(1, 19):
                self.assertEqual(step(number, nominal), width(number + 3, nominal))


class Codes(unittest.TestCase):

    def limits(self, letter, grade, nominal=250000):
        return code_limits(ord(letter), grade, nominal)

    def test_of_25_millimetres(self):
        told = {
            ("h", 7): (-159, 0), ("H", 7): (0, 159),
            ("g", 6): (-56 - 112, -56), ("G", 6): (56, 56 + 112),
            ("i", 6): (56, 56 + 112), ("I", 6): (-56 - 112, -56),
            ("a", 16): (-448 - 3584, -448), ("A", 16): (448, 448 + 3584),
            ("z", 0): (20275, 20275 + 14), ("Z", 0): (-20275 - 14, -20275),
        }
        self.assertEqual({code: self.limits(code[0], code[1]) for code in told}, told)

    def test_every_letter_and_grade(self):
        for place in range(1, 27):
            number = place - 8
            for grade in range(17):
                for nominal in (1, 250000, 2147483647):
                    away = step(abs(number), nominal)
                    wide = width(grade, nominal)
                    upper = (away, away + wide)
                    lower = (-away - wide, -away)
                    shaft = code_limits(96 + place, grade, nominal)
                    hole = code_limits(64 + place, grade, nominal)
                    self.assertEqual((shaft, hole), (lower, upper) if number <= 0 else (upper, lower))


class Fit(unittest.TestCase):

    def test_nominal(self):
        self.assertEqual([is_nominal(n) for n in (0, 1, 2147483647, 2147483648)], [False, True, True, False])

    def test_order(self):
        self.assertTrue(are_fit(10, 3, 3))
        self.assertFalse(are_fit(10, 4, 3))

    def test_least_size(self):
        self.assertTrue(are_fit(10, -9, 0))
        self.assertFalse(are_fit(10, -10, 0))

    def test_farthest(self):
        self.assertTrue(are_fit(2147483647, -BILLION, BILLION))
        self.assertFalse(are_fit(2147483647, -BILLION - 1, BILLION))
        self.assertFalse(are_fit(2147483647, -BILLION, BILLION + 1))


if __name__ == "__main__":
    unittest.main()
