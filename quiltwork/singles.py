"""Singles and their upper halves, as whole numbers that hold their exact values.

A half in range is a multiple of 2^-47, so a product of two is one of 2^-94; a single
in range is a multiple of 2^-123. Values are kept as how many of these units they are:
no sum leaves the whole numbers, and none is too small or too large for a single.
"""

PRECISION = 24

# The exponents as they are written: 127 stands for 0, so these are -40 and 40.
HALF_SIGN = 32768
HALF_FRACTION = 128
HALF_LEAST = 87
HALF_MOST = 167

# Likewise -100 and 100.
SINGLE_SIGN = 2147483648
SINGLE_FRACTION = 8388608
SINGLE_LEAST = 27
SINGLE_MOST = 227

# 2^29 leads from units of 2^-94 to units of 2^-123.
PRODUCT_TO_SINGLE = 536870912


def is_in_range(number, sign, fraction, least, most):
    size = number % sign
    return size == 0 or least <= size // fraction <= most


def half_in_range(number):
    return is_in_range(number, HALF_SIGN, HALF_FRACTION, HALF_LEAST, HALF_MOST)


def single_in_range(number):
    return is_in_range(number, SINGLE_SIGN, SINGLE_FRACTION, SINGLE_LEAST, SINGLE_MOST)


def value_of(number, sign, fraction, least):
    size = number % sign
    if size == 0:
        return 0
    value = (fraction + size % fraction) << (size // fraction - least)
    return value if number < sign else -value


def half_value(number):
    return value_of(number, HALF_SIGN, HALF_FRACTION, HALF_LEAST)


def single_value(number):
    return value_of(number, SINGLE_SIGN, SINGLE_FRACTION, SINGLE_LEAST)


def rounded(value):
    spare = value.bit_length() - PRECISION - 1
    if spare < 0:
        return value
    # One bit more than a single has is kept: it tells whether the rest is below a half.
    kept = value >> spare
    if kept % 2 == 1:
        halfway = (kept << spare) == value
        # Of two that are equally near the lower one is even if this ends in 01.
        kept += -1 if halfway and kept % 4 == 1 else 1
    return kept << spare


def single_of(value):
    if value == 0:
        return 0
    size = abs(value)
    spare = size.bit_length() - PRECISION
    digits = size >> spare if spare > 0 else size << -spare
    number = (SINGLE_LEAST + spare) * SINGLE_FRACTION + digits - SINGLE_FRACTION
    return number if value > 0 else number + SINGLE_SIGN
