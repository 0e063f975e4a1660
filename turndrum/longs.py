"""Words and longs: which numbers they are, and how they are taken apart."""

LARGEST_WORD = 9999999999
LARGEST_LONG = 99999999999999999999
WORD_BASE = 10000000000
LONG_BASE = 100000000000000000000
LONG_DIGITS = 20


def is_word(number):
    return -LARGEST_WORD <= number <= LARGEST_WORD


def is_long(number):
    return -LARGEST_LONG <= number <= LARGEST_LONG


def with_sign_of(number, size):
    return -size if number < 0 else size


def divided(number, divisor):
    """The quotient toward 0; Python's own goes downward."""
    return with_sign_of(number * divisor, abs(number) // abs(divisor))


def divided_rounded(number, divisor):
    """The nearest quotient by a divisor above 0, halves away from 0."""
    return with_sign_of(number, (2 * abs(number) + divisor) // (2 * divisor))


def upper_word(number):
    return divided(number, WORD_BASE)


def lower_word(number):
    return with_sign_of(number, abs(number) % WORD_BASE)


def lower_twenty(number):
    return with_sign_of(number, abs(number) % LONG_BASE)


def digit_sum(number):
    rest = abs(number)
    total = 0
    while rest > 0:
        total += rest % 10
        rest = rest // 10
    return total


def power_of_ten(exponent):
    power = 1
    for step in range(exponent):
        power = power * 10
    return power


def tens_that_fit(number):
    """How many times the number can be taken times 10 and still be a long."""
    if number == 0:
        return LONG_DIGITS
    count = 0
    shifted = number * 10
    while is_long(shifted):
        count += 1
        shifted = shifted * 10
    return count
