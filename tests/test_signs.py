"""[0.3]: the signs and their order."""

import unittest

from tests.helper import ALL, DOT, MARKED_OUTSIDE, MARKED_WITHIN, fault, one, signs_of
from tokenwright import signs
from tokenwright.reading import read


class SignsTest(unittest.TestCase):
    def test_the_line_end_first_then_by_their_numbers_without_37(self):
        numbers = [ord(sign) for sign in signs.SIGNS]
        self.assertEqual(numbers, [10] + [n for n in range(32, 127) if n != 37])

    def test_in_order_tells_each_sign_once(self):
        self.assertEqual(signs.in_order("zaz \nz"), "\n az")
        self.assertEqual(signs.in_order(""), "")
        self.assertEqual(signs.in_order(ALL[::-1]), ALL)

    def test_all_but(self):
        self.assertEqual(signs.all_but("\n"), DOT)
        self.assertEqual(signs.all_but(""), ALL)
        self.assertEqual(signs.all_but(ALL), "")
        self.assertEqual(signs.all_but(ALL[3:]), "\n !")

    def test_is_ahead(self):
        for at, sign in enumerate(ALL):
            self.assertFalse(signs.is_ahead(sign, sign))
            for later in ALL[at + 1:]:
                self.assertTrue(signs.is_ahead(sign, later))
                self.assertFalse(signs.is_ahead(later, sign))

    def test_a_stretch_has_both_its_ends(self):
        self.assertEqual(signs.stretch("a", "a"), "a")
        self.assertEqual(signs.stretch("a", "d"), "abcd")
        self.assertEqual(signs.stretch("\n", "!"), "\n !")
        self.assertEqual(signs.stretch("\n", "~"), ALL)

    def test_the_signs_that_need_a_backslash(self):
        self.assertEqual(set(signs.MARKED_OUTSIDE), set(MARKED_OUTSIDE))
        self.assertEqual(set(signs.MARKED_WITHIN), set(MARKED_WITHIN))


class SignsInRulesTest(unittest.TestCase):
    def test_all_signs_in_their_order(self):
        self.assertEqual(signs_of("[\n-~]"), ALL)
        self.assertEqual(signs_of("[\\n-~]"), ALL)

    def test_a_stretch_that_passes_37_leaves_it_out(self):
        self.assertEqual(signs_of("[$-&]"), "$&")
        self.assertEqual(signs_of("[ -']"), " !\"#$&'")

    def test_what_is_no_sign_can_stand_nowhere(self):
        for wrong in (chr(37), "\t", "\r", chr(127), chr(0), chr(228)):
            self.assertEqual(fault(wrong), (0, 0))
            self.assertEqual(fault("a" + wrong), (0, 1))
            self.assertEqual(fault("[" + wrong + "]"), (0, 1))
            self.assertEqual(fault("[a-" + wrong + "]"), (0, 3))
            self.assertEqual(fault("\\" + wrong), (0, 1))

    def test_the_first_and_the_last_sign(self):
        self.assertEqual(read("\n"), one("\n"))
        self.assertEqual(read(" "), one(" "))
        self.assertEqual(read("~"), one("~"))


if __name__ == "__main__":
    unittest.main()
