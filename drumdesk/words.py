"""The machine's numbers: words, longs, their parts and their digits."""

WORD_MOST = 9999999999
LONG_MOST = 99999999999999999999
WORD_SIZE = 10000000000
LONG_SIZE = 100000000000000000000


def is_word(number):
    return -WORD_MOST <= number <= WORD_MOST


def is_long(number):
    return -LONG_MOST <= number <= LONG_MOST


def with_sign_of(number, size):
    return -size if number < 0 else size


def upper_word(number):
    return with_sign_of(number, abs(number) // WORD_SIZE)


def lower_word(number):
    return with_sign_of(number, abs(number) % WORD_SIZE)


def lower_twenty(number):
    return with_sign_of(number, abs(number) % LONG_SIZE)


# Python's own // rounds down; the machine's division drops toward 0.
def quotient_toward_zero(number, divisor):
    size = abs(number) // abs(divisor)
    return -size if (number < 0) != (divisor < 0) else size


def quotient_to_nearest(number, divisor):
    return with_sign_of(number, (abs(number) + divisor // 2) // divisor)


def digit_sum(number):
    return sum([int(digit) for digit in str(abs(number))])


def power_of_ten(exponent):
    power = 1
    for step in range(exponent):
        power = power * 10
    return power
