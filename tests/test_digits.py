"""Integers of any size: more digits than Python itself reads or writes at once."""

import sys
import unittest

from patterndeeds.digits import digits_of, integer_of, power_of_ten
from patterndeeds.formats import formatted
from patterndeeds.values import has_number_form, number_of, operated
from helper import Case, random_of


class TestDigits(Case):

    def setUp(self):
        self.most = sys.get_int_max_str_digits()
        sys.set_int_max_str_digits(0)

    def tearDown(self):
        sys.set_int_max_str_digits(self.most)

    def limited(self, action, *values):
        """What an action answers while Python refuses many digits."""
        sys.set_int_max_str_digits(4300)
        try:
            return action(*values)
        finally:
            sys.set_int_max_str_digits(0)

    def test_there_and_back(self):
        random = random_of("digits")
        for many in list(range(8)) + [3612, 3613, 3614, 3999, 4000, 4001, 4299, 4300, 4301, 8000, 8001, 12001, 20000]:
            digits = "".join(random.choice("0123456789") for _ in range(many))
            self.assertEqual(self.limited(integer_of, digits), int("0" + digits))
            for number in [int("0" + digits), int("1" + digits), int("9" * many or "0"), 10 ** many]:
                self.assertEqual(self.limited(digits_of, number), str(number))
            self.assertEqual(self.limited(power_of_ten, many), 10 ** many)
        for bits in [11999, 12000, 12001, 40000]:
            for number in [1 << bits, (1 << bits) - 1, (1 << bits) + 1]:
                self.assertEqual(self.limited(digits_of, number), str(number))

    def test_long_texts(self):
        """Somewhat beyond the limits, where no error may come."""
        for digits in ["7" * 4001, "7" * 5000, "1" * 4290 + "." + "5" * 60]:
            self.assertIs(self.limited(has_number_form, digits), True)
            top, bottom = self.limited(number_of, ("text", digits + "x"))
            whole, _, places = digits.partition(".")
            self.assertEqual(top * 10 ** len(places), int(whole + places) * bottom)
        self.assertEqual(self.limited(formatted, "@.60f", [("text", "3" * 3900)]), "3" * 3900 + "." + "0" * 60)
        self.assertEqual(self.limited(operated, "-", ("text", "7" * 5000), ("seen", "7" * 5000)), ("number", 0, 1))


if __name__ == "__main__":
    unittest.main()
