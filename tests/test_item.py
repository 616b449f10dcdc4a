"""item: the four forms of a size's text, its faults with their places, the refusals and their order."""

import re
import unittest

from surebounds.texts import SizeFault, said
from tests.helper import ask, item, item_bytes, known, last

NUMBER = r"(?:0|[1-9][0-9]{0,8})(?:\.[0-9]{0,3}[1-9])?"
DEVIATION = r"(?:\+" + NUMBER + r"|-(?!0(?: |\Z))" + NUMBER + r")"
CODE = r"[A-Za-z](?:1[0-6]|[0-9])"
SHAPE = re.compile(
    NUMBER + r"(?: \+-" + NUMBER + r"| " + DEVIATION + r" " + DEVIATION + r"| " + CODE + r")?")

# Whatever begins a size's text is made one by one of these.
ENDINGS = ("", "1", "0", "h0", ".1", "-1", " -1", "1 -1", ".1 -1")


def begins_a_shape(text):
    return any(SHAPE.fullmatch(text + ending) for ending in ENDINGS)


def says(text):
    size = said([ord(sign) for sign in text])
    return (size.nominal, size.lo, size.hi, size.form, size.letter, size.grade)


def fault(text):
    try:
        said([ord(sign) for sign in text])
    except SizeFault as found:
        return (found.kind, found.place)
    return None


class Forms(unittest.TestCase):

    def assert_says(self, told):
        self.assertEqual({text: says(text) for text in told}, told)
        self.assertEqual([last([item(text)]) for text in told], [[0] for text in told])

    def test_plain(self):
        self.assert_says({
            "25": (250000, 0, 0, 0, 0, 0),
            "0.0001": (1, 0, 0, 0, 0, 0),
            "0.1": (1000, 0, 0, 0, 0, 0),
            "2.501": (25010, 0, 0, 0, 0, 0),
            "2.0501": (20501, 0, 0, 0, 0, 0),
            "214748.3647": (2147483647, 0, 0, 0, 0, 0),
        })

    def test_even(self):
        self.assert_says({
            "25 +-0.01": (250000, -100, 100, 1, 0, 0),
            "25 +-0": (250000, 0, 0, 1, 0, 0),
            "25 +-24.9999": (250000, -249999, 249999, 1, 0, 0),
            "214748.3647 +-107374.1824": (2147483647, -1073741824, 1073741824, 1, 0, 0),
        })

    def test_uneven(self):
        self.assert_says({
            "25 +0.02 -0.01": (250000, -100, 200, 2, 0, 0),
            "25 +0.02 +0.01": (250000, 100, 200, 2, 0, 0),
            "25 -0.01 -0.02": (250000, -200, -100, 2, 0, 0),
            "25 +0 -0.5": (250000, -5000, 0, 2, 0, 0),
            "25 +0 +0": (250000, 0, 0, 2, 0, 0),
            "25 -0.5 -0.5": (250000, -5000, -5000, 2, 0, 0),
            "0.0001 +107374.1824 +0": (1, 0, 1073741824, 2, 0, 0),
        })

    def test_code(self):
        self.assert_says({
            "25 h7": (250000, -159, 0, 3, 104, 7),
            "25 H7": (250000, 0, 159, 3, 72, 7),
            "25 g6": (250000, -168, -56, 3, 103, 6),
            "25 G6": (250000, 56, 168, 3, 71, 6),
            "25 i6": (250000, 56, 168, 3, 105, 6),
            "25 I6": (250000, -168, -56, 3, 73, 6),
            "25 a16": (250000, -4032, -448, 3, 97, 16),
            "25 A10": (250000, 448, 896, 3, 65, 10),
            "25 z0": (250000, 20275, 20289, 3, 122, 0),
            "25 Z1": (250000, -20295, -20275, 3, 90, 1),
        })


class Shapes(unittest.TestCase):

    def assert_faults(self, kind, told):
        self.assertEqual({text: fault(text) for text in told}, {text: (kind, told[text]) for text in told})
        self.assertEqual([last([item(text)]) for text in told], [[-2, kind, told[text]] for text in told])

    def test_numbers(self):
        self.assert_faults(1, {
            "": 0, " ": 0, ".5": 0, "+5": 0, "x": 0,
            "00": 1, "01": 1, "25x": 2, "25,5": 2, "1234567890": 9,
            "2.": 2, "2..": 2, "2.x": 2, "2.50": 4, "2.500": 5, "2.5000": 5, "2.50 h7": 4, "25.0000": 6,
            "2.51234": 6, "2.5.": 3, "123456789.12345": 14,
        })

    def test_behind_the_blank(self):
        self.assert_faults(1, {
            "25 ": 3, "25  ": 3, "25 5": 3, "25 .": 3, "25 @7": 3, "25 [7": 3, "25 `7": 3, "25 {7": 3,
            "25\n": 2, "25\t+-1": 2,
        })

    def test_even(self):
        self.assert_faults(1, {
            "25 +": 4, "25 ++": 4, "25 +-": 5, "25 +--": 5, "25 +- 1": 5, "25 +-0.010": 10, "25 +-0.01 ": 9,
            "25 +-00": 6, "25 -+1": 4,
        })

    def test_uneven(self):
        self.assert_faults(1, {
            "25 +0.1": 7, "25 +0.1 ": 8, "25 +0.1 5": 8, "25 +0.1 h7": 8, "25 +0.1 +-0.1": 9, "25 +0.1 -": 9,
            "25 +0.1  -0.1": 8, "25 +0.1 -0.1 ": 12, "25 +0.1 -0.10": 13, "25 +0.1x": 7,
        })

    def test_minus_0(self):
        self.assert_faults(1, {
            "25 -0": 5, "25 -0 -1": 5, "25 -01": 5, "25 +0 -0": 8, "25 +0 -0 ": 8, "25 +0 -0.0": 10,
            "25 +0 -0.0000": 12, "25 -0.": 6,
        })
        self.assertIsNone(fault("25 +0 -0.5"))
        self.assertIsNone(fault("25 +0 -0.0001"))

    def test_grades(self):
        self.assert_faults(1, {
            "25 h": 4, "25 h17": 5, "25 h20": 5, "25 h160": 6, "25 h00": 5, "25 h07": 5, "25 h-1": 4, "25 hh": 4,
            "25 h7 ": 5, "25 h99": 5, "25 h 7": 4, "25 H17": 5,
        })
        for grade in range(17):
            self.assertIsNone(fault("25 h" + str(grade)))

    def test_bytes_that_are_no_sign(self):
        for byte in range(256):
            answer = last([item_bytes([50, byte])])
            self.assertEqual(answer, [0] if 48 <= byte <= 57 else [-2, 1, 2 if byte in (32, 46) else 1], byte)

    def test_letters(self):
        for byte in range(256):
            sign = byte in range(65, 91) or byte in range(97, 123)
            answer = last([item_bytes([50, 32, byte, 55])])
            if sign:
                self.assertEqual(answer, [0], byte)
            elif byte in (43, 45):
                self.assertEqual(answer, [-2, 1, 4], byte)
            else:
                self.assertEqual(answer, [-2, 1, 2], byte)

    def walk(self, begun, deep):
        """Every text of these signs that begins like this, as long as it begins a shape."""
        self.assertEqual(fault(begun) == (1, len(begun)), SHAPE.fullmatch(begun) is None, begun)
        if SHAPE.fullmatch(begun):
            self.assertNotEqual((fault(begun) or (0, 0))[0], 1, begun)
        if deep == 0:
            return
        for sign in "0156.+- hZ":
            if begins_a_shape(begun + sign):
                self.walk(begun + sign, deep - 1)
            else:
                for rest in ("", "1", " h7"):
                    self.assertEqual(fault(begun + sign + rest), (1, len(begun)), begun + sign + rest)

    def test_every_beginning(self):
        self.walk("", 5)
        for begun in ("25 +", "25 -", "25 +-", "25 +0 -", "25 -0", "25 h", "2.5", "12345678", "25 +1 +12345678"):
            self.walk(begun, 5)


class Values(unittest.TestCase):

    def assert_fault(self, text, kind, place):
        self.assertEqual(fault(text), (kind, place), text)
        self.assertEqual(last([item(text)]), [-2, kind, place], text)

    def test_nominal(self):
        for text in ("0", "214748.3648", "999999999.9999", "0 h7", "0 +-0", "0 +0 -0.5", "214748.3648 H0"):
            self.assert_fault(text, 2, 0)

    def test_nominal_comes_before_the_rest(self):
        self.assert_fault("0 +-107374.1825", 2, 0)
        self.assert_fault("0 -1 +1", 2, 0)

    def test_shape_comes_before_the_rest(self):
        self.assert_fault("0 +-", 1, 4)
        self.assert_fault("0 -1 +1x", 1, 7)

    def test_too_far(self):
        self.assert_fault("214748.3647 +-107374.1825", 3, 14)
        self.assert_fault("25 +107374.1825 -1", 3, 4)
        self.assert_fault("25 +107374.1824 -107374.1825", 3, 17)
        self.assert_fault("25 -107374.1825 -107374.1826", 3, 4)
        self.assert_fault("25 +1 +999999999.9999", 3, 7)

    def test_too_far_comes_before_the_order(self):
        self.assert_fault("25 +1 +107374.1825", 3, 7)

    def test_order(self):
        self.assert_fault("25 -0.01 +0.01", 4, 9)
        self.assert_fault("25 +0.01 +0.0101", 4, 9)
        self.assert_fault("25 -0.02 -0.01", 4, 9)
        self.assert_fault("2.5 -100 +0", 4, 9)
        self.assertIsNone(fault("25 +0.01 +0.01"))

    def test_not_fit(self):
        self.assert_fault("25 +-25", 5, 3)
        self.assert_fault("25 +0 -25", 5, 3)
        self.assert_fault("2.5 -3 -4", 5, 4)
        self.assert_fault("0.0001 h0", 5, 7)
        self.assert_fault("0.0001 I0", 5, 7)
        self.assert_fault("0.0001 +-0.0001", 5, 7)
        self.assertIsNone(fault("0.0001 H0"))
        self.assertIsNone(fault("0.0001 i0"))
        self.assertIsNone(fault("0.0002 h0"))
        self.assertIsNone(fault("25 +-24.9999"))

    def test_where_codes_begin_to_be_fit(self):
        # Each of these just if N + lo is 1 at least; units are 1 there.
        told = {"h3": 3, "g3": 4 + 3, "a0": 32 + 1, "I1": 4 + 2, "J0": 6 + 1}
        for code in told:
            self.assert_fault("0." + str(told[code]).zfill(4).rstrip("0") + " " + code, 5, 7)
            self.assertIsNone(fault("0." + str(told[code] + 1).zfill(4).rstrip("0") + " " + code))


class Refusals(unittest.TestCase):

    def test_length(self):
        self.assertEqual(last([item_bytes([50] * 64)]), [-2, 1, 9])
        self.assertEqual(last([item_bytes([50] * 65)]), [-1])
        self.assertEqual(last([item_bytes([0] * 100)]), [-1])

    def test_seventeenth(self):
        calls = [item("25")] * 17
        self.assertEqual(ask(calls), [[number] for number in range(16)] + [[-7]])

    def test_order(self):
        full = [item("25")] * 16
        self.assertEqual(last(full + [item_bytes([50] * 65)]), [-1])
        self.assertEqual(last(full + [item("2.50")]), [-2, 1, 4])
        self.assertEqual(last(full + [item("0")]), [-2, 2, 0])
        self.assertEqual(last(full + [item("25 +-1")]), [-7])

    def test_refused_items_are_not_there(self):
        calls = [item("25"), item("2.50"), item_bytes([50] * 65), known(1), item("3"), known(1)]
        self.assertEqual(ask(calls), [[0], [-2, 1, 4], [-1], [-4], [1], [0, 1, 4294967296]])
        full = [item("25")] * 17
        self.assertEqual(last(full + [known(16)]), [-4])
        self.assertEqual(last(full + [known(15)]), [0, 1, 4294967296])


if __name__ == "__main__":
    unittest.main()
