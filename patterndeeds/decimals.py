"""Numbers of programs: fractions that are decimals, and how they are written."""

from math import gcd

from patterndeeds.digits import power_of_ten
from patterndeeds.signs import MOST_DIGITS


def times_in(factor, number):
    """How often a factor goes into a number, and what is left of it."""
    times = 0
    while number // factor * factor == number:
        number = number // factor
        times += 1
    return times, number


def places_of(bottom):
    """How many places a decimal with this bottom needs; None if no decimal has it."""
    twos, rest = times_in(2, bottom)
    fives, rest = times_in(5, rest)
    if rest != 1:
        return None
    return max(twos, fives)


def is_decimal(top, bottom):
    """Whether any two values are a fraction that a decimal of at most 60 digits writes."""
    if type(top) is not int or type(bottom) is not int or top < 0 or bottom < 1:
        return False
    if bottom == 1:
        return top < power_of_ten(MOST_DIGITS)
    if gcd(top, bottom) != 1:
        return False
    places = places_of(bottom)
    if places is None or places > MOST_DIGITS:
        return False
    return top * power_of_ten(places) // bottom < power_of_ten(MOST_DIGITS)


def decimal_text(top, bottom):
    """The shortest decimal of a fraction."""
    places = places_of(bottom)
    digits = str(top * power_of_ten(places) // bottom)
    if places == 0:
        return digits
    digits = digits.zfill(places)
    whole = len(digits) - places
    return digits[:whole] + "." + digits[whole:]


def decimal_of(text):
    """The fraction in lowest terms, a tuple (top, bottom), of the text of a number."""
    whole, _, places = text.partition(".")
    top = int(whole + places)
    bottom = power_of_ten(len(places))
    shared = gcd(top, bottom)
    return top // shared, bottom // shared
