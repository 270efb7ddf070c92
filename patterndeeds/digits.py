"""Integers of any size, read from digits and written in digits."""

# Python itself refuses to read or write more than 4,300 digits at once.
AT_ONCE = 4000


def power_of_ten(places):
    """10 to the power of a number of places."""
    if places <= AT_ONCE:
        return int("1" + "".zfill(places))
    half = power_of_ten(places // 2)
    return half * half * power_of_ten(places - places // 2 * 2)


def integer_of(digits):
    """The integer that digits tell, 0 without any."""
    if len(digits) <= AT_ONCE:
        return int("0" + digits)
    half = len(digits) // 2
    return integer_of(digits[:-half]) * power_of_ten(half) + integer_of(digits[-half:])


def digits_of(number):
    """The digits of an integer from 0 on."""
    # Three bits tell less than one digit.
    if number.bit_length() <= AT_ONCE * 3:
        return str(number)
    half = number.bit_length() // 7
    first, rest = divmod(number, power_of_ten(half))
    return digits_of(first) + digits_of(rest).zfill(half)
