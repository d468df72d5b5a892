"""Mixing numbers by a key, digit by digit (chapter 16)."""

from math import gcd

BYTE_BASE = 256
NAME_BASE = 66


def mixed(digits, base, key):
    """Returns the list of the digits of the mixed number, the most significant one first."""
    for at in range(0, len(key), 2):
        number = _number(digits, base) * factor(key[at], base) + key[at + 1]
        # The least significant digit first: this is the order turned round.
        digits = _turned_digits(number, base, len(digits))
    return digits


def unmixed(digits, base, key):
    """Returns the list of the digits of the number that was mixed."""
    whole = _power(base, len(digits))
    for at in reversed(range(0, len(key), 2)):
        number = _number(digits[::-1], base) - key[at + 1]
        number = number * _inverse(factor(key[at], base), whole)
        digits = _turned_digits(number, base, len(digits))[::-1]
    return digits


def factor(number, base):
    """Returns the factor of a number of the key, which has no divisor in common with the base."""
    if base == BYTE_BASE:
        return 2 * number + 1
    units = [unit for unit in range(1, base) if gcd(unit, base) == 1]
    return base * (number // len(units)) + units[number % len(units)]


def _number(digits, base):
    number = 0
    for digit in digits:
        number = number * base + digit
    return number


def _turned_digits(number, base, count):
    """Returns the last digits of a number, the least significant one first."""
    digits = []
    for _ in range(count):
        digits.append(number % base)
        number = number // base
    return digits


def _power(base, count):
    whole = 1
    for _ in range(count):
        whole = whole * base
    return whole


def _inverse(number, whole):
    """Returns the number that, multiplied by this one, leaves 1 when divided by `whole`."""
    # Along the divisions of both numbers, `product` is what the number is multiplied by to leave `rest`.
    last, rest = whole, number % whole
    last_product, product = 0, 1
    while rest > 1:
        times = last // rest
        last, rest = rest, last - times * rest
        last_product, product = product, last_product - times * product
    return product
