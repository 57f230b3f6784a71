"""Numbers as bytes, the lowest first, and with a sign in two's complement."""

HALF = 9223372036854775808
ROUND = 18446744073709551616


def little_endian(number, size):
    return [(number >> (8 * place)) & 255 for place in range(size)]


def from_little_endian(row):
    number = 0
    for byte in reversed(row):
        number = number * 256 + byte
    return number


# Of all numbers that are the same modulo 2^64, the one from -2^63 to 2^63 - 1.
def with_sign(number):
    return (number + HALF) % ROUND - HALF
